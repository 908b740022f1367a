"""Which names gather surely by which rule. Several names are told as bits: bit i stands for name i."""

from rulesfound.boards import rules_in_order
from rulesfound.moving import names_after

# The least row has all robots at its last place, so the first name is always the gathered one.
TOGETHER = 0


def bits_of(numbers):
    bits = 0
    for number in numbers:
        bits = bits | (1 << number)
    return bits


def numbers_of(bits):
    return [number for number in range(bits.bit_length()) if (bits >> number) & 1 == 1]


def reckoned_after(board, number, done, moves):
    told = {}
    for view, what in zip(board.had[number], done):
        told[board.views[view]] = what
    names = names_after(board.names[number], board.eyes, told, moves)
    return bits_of([board.names.index(name) for name in names])


def bits_after(board, number, rule, moves):
    # What is told of views that nobody has here makes no difference: many rules share one reckoning.
    done = tuple([rule[view] for view in board.had[number]])
    asked = (number, done, moves)
    if asked not in board.known_moves:
        board.known_moves[asked] = reckoned_after(board, number, done, moves)
    return board.known_moves[asked]


def comes_to_rest(number, after, sure):
    if after == 0:
        return number == TOGETHER
    return (after & sure) == after


def sure_of(afters):
    # Grown from rest backward, so that what may go on for ever, or rest apart, never comes in.
    sure = 0
    before = None
    while sure != before:
        before = sure
        for number, after in enumerate(afters):
            if comes_to_rest(number, after, sure):
                sure = sure | (1 << number)
    return sure


def sure_by(board, rule, moves):
    return sure_of([bits_after(board, number, rule, moves) for number in range(len(board.names))])


def sure_by_each(board, moves):
    # In the order of rules: each with the names that gather surely by it.
    if moves not in board.known_sure:
        board.known_sure[moves] = [(rule, sure_by(board, rule, moves)) for rule in rules_in_order(board)]
    return board.known_sure[moves]


def good_rules(board, moves):
    wanted = bits_of(board.marked)
    return [rule for rule, sure in sure_by_each(board, moves) if (sure & wanted) == wanted]


def best_rule(board):
    wanted = bits_of(board.marked)
    most = -1
    best = ()
    for rule, sure in sure_by_each(board, board.moves):
        gathered = len(numbers_of(sure & wanted))
        if gathered > most:
            most = gathered
            best = rule
    return (most, best)


def with_one_more(fews, numbers):
    # Later numbers alone are put behind, so that each few comes once, rising, and the fews stay in order.
    longer = []
    for few in fews:
        longer.extend([few + [number] for number in numbers if len(few) == 0 or number > few[-1]])
    return longer


def first_hopeless(fews, sures):
    for few in fews:
        wanted = bits_of(few)
        if not any([(sure & wanted) == wanted for sure in sures]):
            return few
    return None


def fewest_hopeless(board):
    # Only asked where no rule is good, so that all marked names together are hopeless at the latest.
    sures = {}
    for rule, sure in sure_by_each(board, board.moves):
        sures[sure] = True
    fews = [[]]
    hopeless = None
    while hopeless is None:
        fews = with_one_more(fews, sorted(board.marked))
        hopeless = first_hopeless(fews, list(sures))
    return hopeless
