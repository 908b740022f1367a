"""The calls on one object, one behind another, and what they answer."""

from rulesfound.boards import Board, how_many_rules, most_told
from rulesfound.gathering import best_rule, bits_of, fewest_hopeless, good_rules, numbers_of, sure_by
from rulesfound.shapes import all_apart, even_handed

NO_SUCH = -2
NOT_MARKED = -6
SOME_RULE_IS_GOOD = -6
NOT_BEGUN = -11
MARKED_ALREADY = -17
OUT_OF_RANGE = -22
TOO_MANY_RULES = -28
NO_GOOD_RULE = -33

MOST_RULES = 6000

# By a call's number: how many whole numbers follow it.
ARGUMENTS = (4, 1, 0, 1, 0, 1, 1, 1, 1, 0, 0, 0, 2, 0, 0, 0, 0, 0, 0, 0, 1, 0, 0, 1, 0)

BEGIN = 0
OF_A_NAME = (3, 6, 7, 8)
OF_A_VIEW = (5, 12, 20)
OF_ALL_RULES = (16, 17, 18, 19, 20, 21, 22, 23)


def counted(numbers):
    return [len(numbers)] + numbers


def call_at(board, arguments):
    moves = arguments[0]
    if moves > 2:
        return [OUT_OF_RANGE]
    before = board.moves
    board.moves = moves
    return [before]


def call_names(board, arguments):
    return [len(board.names)]


def call_name(board, arguments):
    return counted(list(board.names[arguments[0]]))


def call_views(board, arguments):
    return [len(board.views)]


def call_view(board, arguments):
    view = board.views[arguments[0]]
    return [1 if even_handed(view) else 0] + list(view)


def call_who(board, arguments):
    return counted(board.had[arguments[0]])


def call_mark(board, arguments):
    number = arguments[0]
    if number in board.marked:
        return [MARKED_ALREADY]
    board.marked[number] = True
    return [len(board.marked)]


def call_unmark(board, arguments):
    number = arguments[0]
    if number not in board.marked:
        return [NOT_MARKED]
    board.marked.pop(number)
    return [len(board.marked)]


def call_markapart(board, arguments):
    board.marked = {}
    for number, ring in enumerate(board.names):
        if all_apart(ring):
            board.marked[number] = True
    return [len(board.marked)]


def call_marks(board, arguments):
    return counted(sorted(board.marked))


def call_rules(board, arguments):
    return [how_many_rules(board)]


def call_set(board, arguments):
    number = arguments[0]
    done = arguments[1]
    if done > most_told(board.views[number]):
        return [OUT_OF_RANGE]
    before = board.rule[number]
    board.rule[number] = done
    return [before]


def call_rule(board, arguments):
    return counted(board.rule)


def call_good(board, arguments):
    gathered = sure_by(board, board.rule, board.moves) & bits_of(board.marked)
    return [len(numbers_of(gathered)), len(board.marked)]


def call_goods(board, arguments):
    return counted(numbers_of(sure_by(board, board.rule, board.moves)))


def good_one(board, number):
    # None if no more than so many rules are good.
    good = good_rules(board, board.moves)
    return list(good[number]) if number < len(good) else None


def call_found(board, arguments):
    rule = good_one(board, 0)
    return [NO_GOOD_RULE] if rule is None else counted(rule)


def call_take(board, arguments):
    rule = good_one(board, 0)
    if rule is None:
        return [NO_GOOD_RULE]
    board.rule = rule
    return [0]


def call_many(board, arguments):
    return [len(good_rules(board, board.moves)), how_many_rules(board)]


def call_best(board, arguments):
    best = best_rule(board)
    return [best[0]] + list(best[1])


def call_needed(board, arguments):
    good = good_rules(board, board.moves)
    if len(good) == 0:
        return [NO_GOOD_RULE]
    return [bits_of([rule[arguments[0]] for rule in good])]


def call_why(board, arguments):
    if len(good_rules(board, board.moves)) > 0:
        return [SOME_RULE_IS_GOOD]
    return counted(fewest_hopeless(board))


def call_allat(board, arguments):
    return [len(good_rules(board, moves)) for moves in range(3)]


def call_nth(board, arguments):
    rule = good_one(board, arguments[0])
    return [NO_GOOD_RULE] if rule is None else counted(rule)


def call_told(board, arguments):
    return [board.places, board.eyes, board.robots, board.moves, len(board.marked)]


CALLS = {
    1: call_at,
    2: call_names,
    3: call_name,
    4: call_views,
    5: call_view,
    6: call_who,
    7: call_mark,
    8: call_unmark,
    9: call_markapart,
    10: call_marks,
    11: call_rules,
    12: call_set,
    13: call_rule,
    14: call_good,
    15: call_goods,
    16: call_found,
    17: call_take,
    18: call_many,
    19: call_best,
    20: call_needed,
    21: call_why,
    22: call_allat,
    23: call_nth,
    24: call_told,
}


def can_begin(places, eyes, robots, moves):
    return 3 <= places <= 7 and eyes <= 2 and 1 <= robots <= 3 and moves <= 2


def begun(arguments):
    # None for a refusal, so that the board of before can stay.
    places = arguments[0]
    eyes = arguments[1]
    robots = arguments[2]
    moves = arguments[3]
    if not can_begin(places, eyes, robots, moves):
        return None
    return Board(places, eyes, robots, moves)


def names_nothing(board, call, arguments):
    if call in OF_A_NAME:
        return arguments[0] >= len(board.names)
    if call in OF_A_VIEW:
        return arguments[0] >= len(board.views)
    return False


def answer_on(board, call, arguments):
    if board is None:
        return [NOT_BEGUN]
    # Asked ahead of the call itself, for these two refusals come first, whatever else is due.
    if names_nothing(board, call, arguments):
        return [NO_SUCH]
    if call in OF_ALL_RULES and how_many_rules(board) > MOST_RULES:
        return [TOO_MANY_RULES]
    return CALLS[call](board, arguments)


def answers(calls):
    board = None
    given = []
    start = 0
    while start < len(calls):
        call = calls[start]
        end = start + 1 + ARGUMENTS[call]
        arguments = calls[start + 1:end]
        if call == BEGIN:
            fresh = begun(arguments)
            board = board if fresh is None else fresh
            answer = [OUT_OF_RANGE] if fresh is None else [len(fresh.views)]
        else:
            answer = answer_on(board, call, arguments)
        given.append(len(answer))
        given.extend(answer)
        start = end
    return given
