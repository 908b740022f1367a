"""Rules by the thousand, held against a slow reckoning by single robots, which move on no names but on places."""

import functools
import itertools
import unittest

from calling import ask, marking, subsets
from test_all_rings import both_rows, names, settings, views

MOST_RULES = 6000


def steps(ring, place, eyes, told):
    rows = both_rows(ring, place, eyes)
    done = told[min(rows)]
    if rows[0] == rows[1]:
        return ((0,), (1, -1))[done]
    return ((0,), (1,), (-1,))[done] if rows[0] < rows[1] else ((0,), (-1,), (1,))[done]


def may_stay(ways, moves):
    return ways if moves == 2 else tuple(sorted({0, *ways}))


def enough_go(chosen, moves):
    going = sum(step != 0 for step in chosen)
    return going == 1 if moves == 0 else going >= 1


def moved(spots, chosen, places):
    return tuple(sorted((spot + step) % places for spot, step in zip(spots, chosen)))


class Robots:
    """Robots at such places, which look by such eyes, and move so."""

    def __init__(self, places, eyes, moves):
        self.places = places
        self.eyes = eyes
        self.moves = moves
        self.looks = {}
        self.moved = {}

    def ring(self, spots):
        return "".join(str(spots.count(place)) for place in range(self.places))

    def lesser(self, spots):
        if spots not in self.looks:
            self.looks[spots] = [min(both_rows(self.ring(spots), spot, self.eyes)) for spot in spots]
        return self.looks[spots]

    def after(self, spots, told):
        asked = (spots, tuple(told[row] for row in self.lesser(spots)))
        if asked not in self.moved:
            ways = [steps(self.ring(spots), spot, self.eyes, told) for spot in spots]
            self.moved[asked] = {
                moved(spots, chosen, self.places)
                for chosen in itertools.product(*(may_stay(way, self.moves) for way in ways))
                if enough_go(chosen, self.moves)
            }
        return self.moved[asked]

    def surely(self, spots, told, known):
        # A state that is met again while it is gone through may go on for ever.
        if spots in known:
            return known[spots]
        known[spots] = False
        after = self.after(spots, told)
        known[spots] = all(self.surely(one, told, known) for one in after) if after else len(set(spots)) == 1
        return known[spots]


def spots_of(name):
    return tuple(place for place, many in enumerate(name) for robot in range(int(many)))


def gathering(group, order, told):
    known = {}
    return frozenset(i for i, name in enumerate(order) if group.surely(spots_of(name), told, known))


def ways_to_tell(places, eyes, robots):
    return [2 if even else 3 for row, even in views(places, eyes, robots)]


def how_many(places, eyes, robots):
    return functools.reduce(lambda one, other: one * other, ways_to_tell(places, eyes, robots))


def rule_at(number, places, eyes, robots):
    done = []
    for ways in reversed(ways_to_tell(places, eyes, robots)):
        done.append(number % ways)
        number //= ways
    return tuple(reversed(done))


def told_by(done, places, eyes, robots):
    return {row: what for (row, even), what in zip(views(places, eyes, robots), done)}


@functools.cache
def table(places, eyes, robots, moves):
    # In the order of rules: each with the names that gather surely by it.
    order = names(places, robots)
    group = Robots(places, eyes, moves)
    seen = [row for row, even in views(places, eyes, robots)]
    every = itertools.product(*(range(ways) for ways in ways_to_tell(places, eyes, robots)))
    return [(done, gathering(group, order, dict(zip(seen, done)))) for done in every]


def not_too_many():
    for places, eyes, robots, begin in settings():
        if how_many(places, eyes, robots) <= MOST_RULES:
            yield places, eyes, robots


def some_at_a_time(many):
    """What is marked at first, then what is to be marked or unmarked, ten a line, until all subsets have been met."""
    marked = set(range(many))
    toggles = [(step & -step).bit_length() - 1 for step in range(1, 2 ** many)] + [many - 1]
    for start in range(0, len(toggles), 10):
        some = toggles[start:start + 10]
        yield sorted(marked), some
        for i in some:
            marked ^= {i}


def setting(done):
    return [f"set {v} {what}" for v, what in enumerate(done) if what > 0]


def counted(numbers):
    return [len(numbers), *numbers]


def wanted_of(rules, few):
    """What found, many, best, why and needed of each view are to answer."""
    good = [done for done, sure in rules if sure.issuperset(few)]
    most = max(len(sure.intersection(few)) for done, sure in rules)
    best = next(done for done, sure in rules if len(sure.intersection(few)) == most)
    hopeless = (some for some in subsets(few) if not any(sure.issuperset(some) for done, sure in rules))
    return [
        counted(good[0]) if good else [-33],
        [len(good), len(rules)],
        [most, *best],
        [-6] if good else counted(next(hopeless)),
        *([sum(2 ** m for m in {done[v] for done in good})] if good else [-33] for v in range(len(best))),
    ]


def wanted_nth(rules, few):
    good = [done for done, sure in rules if sure.issuperset(few)]
    numbers = sorted({0, len(good) // 2, max(len(good) - 1, 0), len(good)})
    return [f"nth {i}" for i in numbers], [counted(good[i]) if i < len(good) else [-33] for i in numbers]


class EveryMark(unittest.TestCase):
    """All that are marked at a time, for each setting of begin that has not too many rules."""

    def held_against(self, places, eyes, robots, moves):
        rules = table(places, eyes, robots, moves)
        asked = ["found", "many", "best", "why"] + [f"needed {v}" for v in range(len(rules[0][0]))]
        for few in subsets(range(len(names(places, robots)))):
            begin = f"begin {places} {eyes} {robots} {moves}"
            nth, answered = wanted_nth(rules, few)
            found = ask(begin, *marking(few), *asked, *nth)[1 + len(few):]
            self.assertEqual(found, wanted_of(rules, few) + answered, (begin, few))

    def test_one_goes(self):
        for places, eyes, robots in not_too_many():
            self.held_against(places, eyes, robots, 0)

    def test_some_go(self):
        for places, eyes, robots in not_too_many():
            self.held_against(places, eyes, robots, 1)

    def test_all_go(self):
        for places, eyes, robots in not_too_many():
            self.held_against(places, eyes, robots, 2)

    def test_allat(self):
        for places, eyes, robots in not_too_many():
            tables = [table(places, eyes, robots, moves) for moves in range(3)]
            begin = f"begin {places} {eyes} {robots} 1"
            for few, toggles in some_at_a_time(len(names(places, robots))):
                marked = set(few)
                calls = []
                wanted = []
                for i in toggles:
                    calls.extend([f"unmark {i}" if i in marked else f"mark {i}", "allat"])
                    marked ^= {i}
                    good = [sum(sure.issuperset(marked) for done, sure in rules) for rules in tables]
                    wanted.extend([[len(marked)], good])
                self.assertEqual(ask(begin, *marking(few), *calls)[1 + len(few):], wanted, (begin, few, calls))


class RuleOfNow(unittest.TestCase):
    """Rules from first to last, all of them where there are few, for each setting of begin."""

    def held_against(self, places, eyes, robots, done):
        order = names(places, robots)
        told = told_by(done, places, eyes, robots)
        marked = range(0, len(order), 3)
        wanted = [counted(done)]
        for moves in range(3):
            sure = sorted(gathering(Robots(places, eyes, moves), order, told))
            wanted.extend([[moves - 1 if moves else 2], counted(sure), [sum(i in marked for i in sure), len(marked)]])
        calls = marking(marked) + setting(done) + ["rule"]
        for moves in range(3):
            calls.extend([f"at {moves}", "goods", "good"])
        begin = f"begin {places} {eyes} {robots} 2"
        self.assertEqual(ask(begin, *calls)[-10:], wanted, (begin, done))

    def test_goods_and_good(self):
        for places, eyes, robots, begin in settings():
            rules = how_many(places, eyes, robots)
            # Odd and no multiple of three, so that what is told of each view comes round.
            stride = 1 if rules < 40 else rules // 40 // 6 * 6 + 5
            for number in (*range(0, rules, stride), rules - 1):
                self.held_against(places, eyes, robots, rule_at(number, places, eyes, robots))


if __name__ == "__main__":
    unittest.main()
