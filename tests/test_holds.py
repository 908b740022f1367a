"""What the calls answer, held against one another alone, over all beginnings of few places."""

import itertools
import unittest

from calling import ask, last, marking, subsets

FEW_PLACES = [(places, eyes, robots) for places in (3, 4) for eyes in range(3) for robots in (1, 2, 3)]
FEW_PLACES += [(5, eyes, robots) for eyes in range(3) for robots in (1, 2)]
MORE_PLACES = [(places, eyes, robots) for places in (5, 6, 7) for eyes in range(3) for robots in (1, 2, 3)]


def begins(sizes, all_moves=(0, 1, 2)):
    for (places, eyes, robots), moves in itertools.product(sizes, all_moves):
        yield f"begin {places} {eyes} {robots} {moves}"


def names_in(begin):
    return range(last(begin, "names")[0])


def marked(begin, few):
    return (begin, *marking(few))


def marked_ways(sizes, all_moves=(0, 1, 2)):
    for begin in begins(sizes, all_moves):
        for few in subsets(names_in(begin)):
            yield marked(begin, few)


def with_rule(rule):
    return [f"set {v} {done}" for v, done in enumerate(rule)]


def every_rule(begin):
    evens = [last(begin, f"view {v}")[0] for v in range(last(begin, "views")[0])]
    return itertools.product(*(range(2 if even else 3) for even in evens))


def all_good(line):
    good = []
    many = last(*line, "many")[0]
    room = 30 - len(line)
    for start in range(0, many, room):
        good.extend(ask(*line, *(f"nth {i}" for i in range(start, min(many, start + room))))[len(line):])
    return [rule[1:] for rule in good]


def goods(begin, rule):
    found = last(begin, *with_rule(rule), "goods")
    return found[1:]


class AgainstOneAnother(unittest.TestCase):
    def test_found_is_the_first_of_the_good(self):
        for line in marked_ways(FEW_PLACES):
            found, nth = ask(*line, "found", "nth 0")[-2:]
            self.assertEqual(found, nth, line)

    def test_many_tells_how_many_nth_answers(self):
        for line in marked_ways(FEW_PLACES):
            many, rules = ask(*line, "many", "rules")[-2:]
            self.assertEqual(many[1:], rules, line)
            if many[0] > 0:
                self.assertEqual(last(*line, f"nth {many[0] - 1}")[0], last(*line, "views")[0], line)
            self.assertEqual(last(*line, f"nth {many[0]}"), [-33], line)

    def test_nth_rises_and_each_is_told_once(self):
        for line in marked_ways(((3, 0, 3), (3, 2, 3), (4, 0, 2), (4, 2, 3), (5, 1, 2))):
            rules = all_good(line)
            self.assertEqual(rules, sorted(rules), line)
            self.assertEqual(len(rules), len(set(map(tuple, rules))), line)

    def test_after_take_the_rule_found_gathers_all_marked(self):
        for line in marked_ways(FEW_PLACES):
            found, take, rule, good, names = ask(*line, "found", "take", "rule", "good", "goods")[-5:]
            count = len(line) - 1
            if found == [-33]:
                self.assertEqual((take, set(rule[1:])), ([-33], {0}), line)
            else:
                self.assertEqual((take, rule, good), ([0], found, [count, count]), line)
                self.assertTrue({f"mark {i}" for i in names[1:]}.issuperset(line[1:]), line)

    def test_needed_is_what_good_rules_tell(self):
        for line in marked_ways(((3, 0, 2), (3, 0, 3), (3, 2, 3), (4, 1, 2), (4, 2, 3), (5, 2, 2))):
            rules = all_good(line)
            for v in range(last(line[0], "views")[0]):
                told = {rule[v] for rule in rules}
                wanted = [sum(2 ** done for done in told)] if rules else [-33]
                self.assertEqual(last(*line, f"needed {v}"), wanted, (line, v))

    def test_best_gathers_as_many_as_it_says_and_no_rule_more(self):
        for begin in begins(((3, 0, 2), (3, 0, 3), (3, 2, 3), (4, 0, 2), (4, 2, 3), (5, 0, 2))):
            gathers = [(list(rule), goods(begin, rule)) for rule in every_rule(begin)]
            for few in subsets(names_in(begin)):
                counts = [len(set(few).intersection(names)) for rule, names in gathers]
                first = counts.index(max(counts))
                self.assertEqual(last(*marked(begin, few), "best"), [max(counts)] + gathers[first][0], (begin, few))

    def test_best_is_good_where_some_rule_is(self):
        for line in marked_ways(FEW_PLACES):
            found, best = ask(*line, "found", "best")[-2:]
            count = len(line) - 1
            self.assertEqual(found == [-33], best[0] < count, line)
            if found != [-33]:
                self.assertEqual(best, [count] + found[1:], line)

    def test_why_holds_and_with_any_one_left_out_does_not(self):
        for line in marked_ways(FEW_PLACES):
            found, why = ask(*line, "found", "why")[-2:]
            self.assertEqual(found == [-33], why != [-6], line)
            if why == [-6]:
                continue
            few = why[1:]
            self.assertEqual((why[0], sorted(set(few))), (len(few), few), line)
            self.assertTrue(set(line).issuperset(f"mark {i}" for i in few), line)
            self.assertEqual(last(*marked(line[0], few), "many")[0], 0, line)
            for left_out in few:
                others = [i for i in few if i != left_out]
                self.assertGreater(last(*marked(line[0], others), "many")[0], 0, line)

    def test_allat_is_many_at_each(self):
        for line in marked_ways(FEW_PLACES + [(5, 2, 3)], (1,)):
            allat, first, one, second, some, third, whole = ask(
                *line, "allat", "at 0", "many", "at 1", "many", "at 2", "many")[-7:]
            self.assertEqual(allat, [one[0], some[0], whole[0]], line)
            self.assertEqual((first, second, third), ([1], [0], [1]), line)


class WhatHolds(unittest.TestCase):
    def test_by_the_rule_found_all_marked_gather_and_by_none_ahead(self):
        for begin in begins(((3, 0, 2), (3, 1, 3), (3, 2, 3), (4, 0, 2), (5, 0, 2), (4, 2, 3))):
            gathers = [(list(rule), goods(begin, rule)) for rule in every_rule(begin)]
            for few in subsets(names_in(begin)):
                good = [rule for rule, names in gathers if set(names).issuperset(few)]
                wanted = [len(good[0])] + good[0] if good else [-33]
                self.assertEqual(last(*marked(begin, few), "found"), wanted, (begin, few))

    def test_there_are_as_many_rules_as_told_each_once(self):
        for begin in begins(((3, 0, 1), (3, 0, 2), (3, 0, 3), (4, 0, 2), (4, 2, 3), (7, 0, 2)), (1,)):
            rules = all_good((begin,))
            self.assertEqual([len(rules)], last(begin, "rules"), begin)
            self.assertEqual(rules, [list(rule) for rule in every_rule(begin)], begin)

    def test_what_gathers_where_some_go_does_where_one_does_and_where_all_do(self):
        met = 0
        for begin in begins(((3, 0, 2), (3, 0, 3), (3, 2, 3), (4, 0, 2), (4, 0, 3), (5, 1, 2)), (0,)):
            for rule in every_rule(begin):
                calls = ("goods", "at 1", "goods", "at 2", "goods")
                one, first, some, second, whole = ask(begin, *with_rule(rule), *calls)[-5:]
                self.assertLessEqual(set(some[1:]), set(one[1:]), (begin, rule))
                self.assertLessEqual(set(some[1:]), set(whole[1:]), (begin, rule))
                met += some[0] > 1
        self.assertGreater(met, 0)

    def test_good_rules_where_some_go_are_good_where_one_does_and_where_all_do(self):
        for begin in begins(FEW_PLACES + [(5, 0, 3)], (0,)):
            for i in names_in(begin):
                one, some, whole = last(*marked(begin, (i,)), "allat")
                self.assertLessEqual(some, min(one, whole), (begin, i))

    def test_rest_is_together(self):
        # By the rule that tells stay of all views what is gathered gathers, and nothing else does.
        for begin in begins(FEW_PLACES + MORE_PLACES):
            self.assertEqual(last(begin, "goods"), [1, 0], begin)


def turned(row, far):
    return row[far:] + row[:far]


def left_by_a_turning(row):
    return any(turned(row, far) == row for far in range(1, len(row)))


def left_by_a_mirroring_without_a_fixed_place(row):
    size = len(row)
    for far in range(size):
        spots = [(far - place) % size for place in range(size)]
        if all(spot != place for place, spot in enumerate(spots)) and [row[spot] for spot in spots] == row:
            return True
    return False


class Hopeless(unittest.TestCase):
    def test_what_is_left_as_it_is(self):
        met = set()
        for begin in begins(FEW_PLACES + [(5, 0, 3), (6, 0, 2), (6, 1, 2), (6, 2, 2), (7, 0, 2)], (0,)):
            for i in names_in(begin):
                row = last(begin, f"name {i}")[1:]
                by_turning = left_by_a_turning(row)
                by_mirroring = left_by_a_mirroring_without_a_fixed_place(row)
                if by_turning or by_mirroring:
                    met.add((by_turning, by_mirroring))
                    line = marked(begin, (i,))
                    self.assertEqual(last(*line, "allat")[1:], [0, 0], line)
                    self.assertEqual(ask(*line, "at 1", "found", "at 2", "found")[-3::2], [[-33], [-33]], line)
                    self.assertEqual(ask(*line, "mark 0", "at 1", "why", "at 2", "why")[-3::2], [[1, i], [1, i]], line)
        # By a turning alone three evenly on three places are left; by a mirroring alone two beside each other.
        self.assertEqual(met, {(True, False), (False, True), (True, True)})

    def test_by_no_rule_that_is_tried_where_rules_are_too_many(self):
        # Of three robots on six places those evenly round are left as they are, and no others.
        for begin in begins(((6, 0, 3), (6, 1, 3), (6, 2, 3)), (1, 2)):
            hopeless = [i for i in names_in(begin) if left_by_a_turning(last(begin, f"name {i}")[1:])]
            self.assertEqual([last(begin, f"name {i}") for i in hopeless], [[6, 0, 1, 0, 1, 0, 1]], begin)
            stride = last(begin, "rules")[0] // 200 // 6 * 6 + 1
            for rule in itertools.islice(every_rule(begin), 0, None, stride):
                self.assertEqual(set(goods(begin, rule)).intersection(hopeless), set(), (begin, rule))

    def test_moves_of_one_by_which_it_is_not(self):
        for places in (4, 6):
            begin = f"begin {places} 0 2 0"
            for i in names_in(begin):
                self.assertGreater(last(*marked(begin, (i,)), "allat")[0], 0, (begin, i))


if __name__ == "__main__":
    unittest.main()
