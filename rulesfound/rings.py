"""The calls on one object, one behind another, and what they answer."""

from rulesfound.shapes import all_apart, even_handed, names_of, views_in, views_of

NO_SUCH = -2
NOT_MARKED = -6
NOT_BEGUN = -11
MARKED_ALREADY = -17
OUT_OF_RANGE = -22

# By a call's number: how many whole numbers follow it. Calls that are not built yet stand here too,
# for ahead of a begin they are answered as well.
ARGUMENTS = (4, 1, 0, 1, 0, 1, 1, 1, 1, 0, 0, 0, 2, 0, 0, 0, 0, 0, 0, 0, 1, 0, 0, 1, 0)

BEGIN = 0
OF_A_NAME = (3, 6, 7, 8)
OF_A_VIEW = (5, 12)


class NotBuilt(Exception):
    pass


class Board:
    def __init__(self, places, eyes, robots, moves):
        self.eyes = eyes
        self.moves = moves
        self.names = names_of(places, robots)
        self.views = views_of(self.names, eyes)
        self.marked = {}
        self.rule = [0] * len(self.views)


def most_told(view):
    return 1 if even_handed(view) else 2


def counted(numbers):
    return [len(numbers)] + numbers


def call_at(board, arguments):
    moves = arguments[0]
    if moves > 2:
        return [OUT_OF_RANGE]
    before = board.moves
    board.moves = moves
    return [before]


def call_names(board, arguments):
    return [len(board.names)]


def call_name(board, arguments):
    return counted(list(board.names[arguments[0]]))


def call_views(board, arguments):
    return [len(board.views)]


def call_view(board, arguments):
    view = board.views[arguments[0]]
    return [1 if even_handed(view) else 0] + list(view)


def call_who(board, arguments):
    had = views_in(board.names[arguments[0]], board.eyes)
    return counted([board.views.index(view) for view in had])


def call_mark(board, arguments):
    number = arguments[0]
    if number in board.marked:
        return [MARKED_ALREADY]
    board.marked[number] = True
    return [len(board.marked)]


def call_unmark(board, arguments):
    number = arguments[0]
    if number not in board.marked:
        return [NOT_MARKED]
    board.marked.pop(number)
    return [len(board.marked)]


def call_markapart(board, arguments):
    board.marked = {}
    for number, ring in enumerate(board.names):
        if all_apart(ring):
            board.marked[number] = True
    return [len(board.marked)]


def call_marks(board, arguments):
    return counted(sorted(board.marked))


def call_rules(board, arguments):
    rules = 1
    for view in board.views:
        rules = rules * (most_told(view) + 1)
    return [rules]


def call_set(board, arguments):
    number = arguments[0]
    done = arguments[1]
    if done > most_told(board.views[number]):
        return [OUT_OF_RANGE]
    before = board.rule[number]
    board.rule[number] = done
    return [before]


CALLS = {
    1: call_at,
    2: call_names,
    3: call_name,
    4: call_views,
    5: call_view,
    6: call_who,
    7: call_mark,
    8: call_unmark,
    9: call_markapart,
    10: call_marks,
    11: call_rules,
    12: call_set,
}


def can_begin(places, eyes, robots, moves):
    return 3 <= places <= 7 and eyes <= 2 and 1 <= robots <= 3 and moves <= 2


def begun(arguments):
    # None for a refusal, so that the board of before can stay.
    places = arguments[0]
    eyes = arguments[1]
    robots = arguments[2]
    moves = arguments[3]
    if not can_begin(places, eyes, robots, moves):
        return None
    return Board(places, eyes, robots, moves)


def names_nothing(board, call, arguments):
    if call in OF_A_NAME:
        return arguments[0] >= len(board.names)
    if call in OF_A_VIEW:
        return arguments[0] >= len(board.views)
    return False


def answer_on(board, call, arguments):
    if board is None:
        return [NOT_BEGUN]
    if call not in CALLS:
        raise NotBuilt(f"call {call} is not built yet")
    # Asked ahead of the call itself, for this refusal comes first, whatever else is due.
    if names_nothing(board, call, arguments):
        return [NO_SUCH]
    return CALLS[call](board, arguments)


def answers(calls):
    board = None
    given = []
    start = 0
    while start < len(calls):
        call = calls[start]
        end = start + 1 + ARGUMENTS[call]
        arguments = calls[start + 1:end]
        if call == BEGIN:
            fresh = begun(arguments)
            board = board if fresh is None else fresh
            answer = [OUT_OF_RANGE] if fresh is None else [len(fresh.views)]
        else:
            answer = answer_on(board, call, arguments)
        given.append(len(answer))
        given.extend(answer)
        start = end
    return given
