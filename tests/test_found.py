"""What is told of all rules together."""

import unittest

from calling import GREATEST, ask, last
from rulesfound.boards import Board
from rulesfound.gathering import fewest_hopeless

# Each has more than 6,000 rules.
TOO_MANY = [f"begin {places} {eyes} 3 {moves}" for places in (6, 7) for eyes in range(3) for moves in range(3)]
# On three places, where some go: all apart gather by no rule, one beside two by two rules.
THREE = ("begin 3 0 3 1", "mark 0", "mark 1")
THREE_HOPELESS = (*THREE, "mark 2")


class Found(unittest.TestCase):
    def test_the_first_good_rule(self):
        self.assertEqual(last(*THREE, "found"), [4, 2, 0, 0, 0])
        self.assertEqual(last("begin 4 0 2 0", "markapart", "found"), [3, 2, 1, 0])
        self.assertEqual(last("begin 6 0 2 0", "mark 3", "found"), [4, 2, 2, 1, 0])
        self.assertEqual(last("begin 7 0 2 2", "markapart", "found"), [4, 1, 2, 1, 0])
        self.assertEqual(last("begin 3 0 3 2", "mark 1", "found"), [4, 0, 0, 2, 0])
        self.assertEqual(last("begin 3 2 3 2", "mark 1", "found"), [3, 0, 1, 0])

    def test_no_names_marked(self):
        self.assertEqual(last("begin 5 0 3 1", "found"), [9] + [0] * 9)
        self.assertEqual(last("begin 3 0 1 0", "set 0 1", "found"), [1, 0])

    def test_a_gathered_name_marked(self):
        self.assertEqual(last("begin 4 0 2 1", "mark 0", "found"), [3, 0, 0, 0])

    def test_one_robot(self):
        for places in range(3, 8):
            self.assertEqual(last(f"begin {places} 0 1 1", "mark 0", "found"), [1, 0])

    def test_by_the_marks_and_moves_of_now(self):
        self.assertEqual(
            ask("begin 3 0 2 0", "found", "mark 1", "found", "at 1", "found", "at 2", "found", "unmark 1", "found"),
            [[2], [2, 0, 0], [1], [2, 2, 0], [0], [-33], [1], [2, 1, 0], [0], [2, 0, 0]])

    def test_moves_of_one_by_which_what_is_hopeless_is_not(self):
        calls = ("mark 1", "mark 2", "found")
        self.assertEqual([last(f"begin 4 0 2 {moves}", *calls) for moves in range(3)], [[3, 2, 1, 0], [-33], [-33]])

    def test_no_rule_is_good(self):
        self.assertEqual(last(*THREE_HOPELESS, "found"), [-33])

    def test_too_many(self):
        for begin in TOO_MANY:
            self.assertEqual(ask(begin, "found", "mark 0", "found")[1:], [[-28], [1], [-28]], begin)


class Take(unittest.TestCase):
    def test_what_is_found_is_the_rule_of_now(self):
        self.assertEqual(ask("begin 4 0 2 0", "mark 2", "set 2 1", "take", "rule", "good", "goods")[3:],
                         [[0], [3, 2, 1, 0], [1, 1], [3, 0, 1, 2]])

    def test_no_names_marked(self):
        self.assertEqual(ask("begin 4 0 2 0", "set 0 2", "set 2 1", "take", "rule")[3:], [[0], [3, 0, 0, 0]])

    def test_it_can_be_set_further(self):
        calls = ("take", "set 0 1", "rule", "found", "nth 0", "take", "rule")
        self.assertEqual(ask("begin 4 0 2 0", "mark 2", *calls)[2:],
                         [[0], [2], [3, 1, 1, 0], [3, 2, 1, 0], [3, 2, 1, 0], [0], [3, 2, 1, 0]])

    def test_no_rule_is_good(self):
        self.assertEqual(ask(*THREE_HOPELESS, "set 0 1", "take", "rule")[4:], [[0], [-33], [4, 1, 0, 0, 0]])

    def test_too_many(self):
        for begin in TOO_MANY:
            self.assertEqual(ask(begin, "set 1 1", "take", "rule")[2:3], [[-28]], begin)
            self.assertEqual(last(begin, "set 1 1", "take", "rule")[:3], [*ask(begin)[0], 0, 1], begin)


class Many(unittest.TestCase):
    def test_how_many_are_good_then_how_many_there_are(self):
        self.assertEqual(last(*THREE, "many"), [2, 36])
        self.assertEqual(last("begin 3 0 3 2", "mark 1", "many"), [6, 36])
        self.assertEqual(last("begin 4 0 2 0", "mark 1", "many"), [2, 12])
        self.assertEqual(last("begin 4 0 2 0", "mark 1", "mark 2", "many"), [1, 12])
        self.assertEqual(last("begin 6 0 2 2", "mark 2", "many"), [6, 36])

    def test_one_robot(self):
        self.assertEqual(ask("begin 7 2 1 2", "many", "mark 0", "many")[1:], [[2, 2], [1], [1, 2]])

    def test_no_names_marked(self):
        self.assertEqual(last("begin 5 1 3 0", "many"), [5832, 5832])

    def test_a_gathered_name_marked(self):
        # Half of the rules tell those together to stay.
        self.assertEqual(last("begin 5 0 3 2", "mark 0", "many"), [2916, 5832])

    def test_all_names_marked(self):
        marks = [f"mark {i}" for i in range(5)]
        self.assertEqual([last(f"begin 5 0 3 {moves}", *marks, "many") for moves in range(3)],
                         [[19, 5832], [4, 5832], [143, 5832]])

    def test_none_is_good(self):
        self.assertEqual(last(*THREE_HOPELESS, "many"), [0, 36])

    def test_too_many(self):
        for begin in TOO_MANY:
            self.assertEqual(ask(begin, "many", "mark 0", "many")[1:], [[-28], [1], [-28]], begin)


class Nth(unittest.TestCase):
    def test_good_rules_in_order(self):
        self.assertEqual(ask("begin 3 0 3 2", "mark 1", *(f"nth {i}" for i in range(7)))[2:],
                         [[4, 0, 0, 2, 0], [4, 0, 1, 2, 0], [4, 1, 0, 1, 0], [4, 1, 1, 1, 0], [4, 2, 0, 0, 0],
                          [4, 2, 1, 0, 0], [-33]])

    def test_all_rules_if_no_names_are_marked(self):
        self.assertEqual(ask("begin 3 0 2 0", *(f"nth {i}" for i in range(7)))[1:],
                         [[2, 0, 0], [2, 0, 1], [2, 1, 0], [2, 1, 1], [2, 2, 0], [2, 2, 1], [-33]])
        self.assertEqual(ask("begin 5 0 3 0", "nth 5831", "nth 5832", "nth 1")[1:],
                         [[9, 2, 2, 2, 2, 1, 1, 2, 2, 1], [-33], [9, 0, 0, 0, 0, 0, 0, 0, 0, 1]])

    def test_no_more_are(self):
        self.assertEqual(ask(*THREE, "nth 1", "nth 2", f"nth {GREATEST}")[3:], [[4, 2, 1, 0, 0], [-33], [-33]])
        self.assertEqual(ask("begin 3 0 1 0", "mark 0", "nth 0", "nth 1")[2:], [[1, 0], [-33]])

    def test_no_rule_is_good(self):
        self.assertEqual(ask(*THREE_HOPELESS, "nth 0", f"nth {GREATEST}")[4:], [[-33], [-33]])

    def test_too_many(self):
        for begin in TOO_MANY:
            self.assertEqual(ask(begin, "nth 0", f"nth {GREATEST}")[1:], [[-28], [-28]], begin)


class Best(unittest.TestCase):
    def test_the_most_and_the_first_rule_of_it(self):
        self.assertEqual(last(*THREE_HOPELESS, "best"), [2, 2, 0, 0, 0])
        self.assertEqual(last(*THREE, "best"), [2, 2, 0, 0, 0])
        self.assertEqual(last("begin 4 0 2 0", "markapart", "best"), [2, 2, 1, 0])
        self.assertEqual(last("begin 6 0 2 2", "mark 1", "mark 2", "mark 3", "best"), [1, 0, 2, 0, 0])

    def test_marked_names_alone_count(self):
        self.assertEqual(last("begin 4 0 2 1", "mark 0", "best"), [1, 0, 0, 0])
        self.assertEqual(last("begin 4 0 2 1", "mark 2", "best"), [0, 0, 0, 0])
        self.assertEqual(last("begin 3 2 3 2", "mark 1", "mark 2", "best"), [1, 0, 1, 0])

    def test_no_names_marked(self):
        self.assertEqual(last("begin 5 0 3 0", "best"), [0] + [0] * 9)

    def test_one_robot(self):
        self.assertEqual(last("begin 3 1 1 0", "mark 0", "best"), [1, 0])

    def test_too_many(self):
        for begin in TOO_MANY:
            self.assertEqual(ask(begin, "best", "mark 0", "best")[1:], [[-28], [1], [-28]], begin)


class Needed(unittest.TestCase):
    def test_what_good_rules_tell(self):
        self.assertEqual(ask(*THREE, *(f"needed {v}" for v in range(4)))[3:], [[4], [3], [1], [1]])
        self.assertEqual(ask("begin 3 0 3 2", "mark 1", *(f"needed {v}" for v in range(4)))[2:], [[7], [3], [7], [1]])
        self.assertEqual(ask("begin 4 0 2 0", "mark 2", *(f"needed {v}" for v in range(3)))[2:], [[4], [2], [1]])

    def test_no_names_marked(self):
        self.assertEqual(ask("begin 4 0 2 0", *(f"needed {v}" for v in range(3)))[1:], [[7], [3], [3]])

    def test_the_rule_of_now_makes_no_difference(self):
        self.assertEqual(last("begin 4 0 2 0", "mark 2", "set 0 1", "needed 0"), [4])

    def test_no_rule_is_good(self):
        self.assertEqual(ask(*THREE_HOPELESS, *(f"needed {v}" for v in range(4)))[4:], [[-33]] * 4)

    def test_no_such_view_comes_ahead_of_no_good_rule(self):
        self.assertEqual(ask(*THREE_HOPELESS, "needed 3", "needed 4", f"needed {GREATEST}")[4:], [[-33], [-2], [-2]])
        self.assertEqual(ask("begin 3 0 1 0", "needed 0", "needed 1")[1:], [[3], [-2]])

    def test_no_such_view_comes_ahead_of_too_many(self):
        for begin in TOO_MANY:
            views = ask(begin)[0][0]
            self.assertEqual(ask(begin, "needed 0", f"needed {views - 1}", f"needed {views}", f"needed {GREATEST}")[1:],
                             [[-28], [-28], [-2], [-2]], begin)


class Why(unittest.TestCase):
    def test_one_that_no_rule_gathers(self):
        self.assertEqual(last(*THREE_HOPELESS, "why"), [1, 2])
        self.assertEqual(last("begin 4 0 2 2", "mark 2", "why"), [1, 2])

    def test_of_several_such_the_first(self):
        self.assertEqual(last("begin 4 0 2 1", "mark 2", "mark 0", "mark 1", "why"), [1, 1])
        self.assertEqual(last("begin 6 0 2 2", "mark 3", "mark 2", "why"), [1, 3])
        self.assertEqual(last("begin 5 2 3 1", "mark 4", "mark 3", "mark 0", "why"), [1, 3])

    def test_some_rule_is_good(self):
        self.assertEqual(last(*THREE, "why"), [-6])
        self.assertEqual(ask("begin 3 0 2 0", "mark 1", "why", "at 1", "why")[2:], [[-6], [0], [1, 1]])

    def test_no_names_marked(self):
        self.assertEqual(last("begin 3 0 1 0", "why"), [-6])
        self.assertEqual(last("begin 5 2 3 1", "why"), [-6])

    def test_too_many_comes_ahead_of_some_rule_is_good(self):
        for begin in TOO_MANY:
            self.assertEqual(ask(begin, "why", "mark 0", "why")[1:], [[-28], [1], [-28]], begin)


class WhyOfSeveral(unittest.TestCase):
    """Where rules are not too many one name by itself is why, always; so what rules gather is written out here."""

    def hopeless(self, marked, *gathered):
        board = Board(7, 0, 3, 0)
        for number in marked:
            board.marked[number] = True
        board.known_sure[0] = [((), sum(2 ** number for number in names)) for names in gathered]
        return fewest_hopeless(board)

    def test_the_fewest(self):
        self.assertEqual(self.hopeless((0, 1, 2), (0, 1), (0, 2)), [1, 2])
        self.assertEqual(self.hopeless((0, 1, 2), (0, 1), (0, 2), (1, 2)), [0, 1, 2])
        self.assertEqual(self.hopeless((0, 1, 2, 3), (0, 1, 2), (1, 2, 3), (0, 2, 3)), [0, 1, 3])
        self.assertEqual(self.hopeless((0, 1, 2, 3), (0, 1), (0, 2), (1, 2)), [3])

    def test_of_like_ones_the_first(self):
        self.assertEqual(self.hopeless((3, 2, 1, 0), (0, 1), (0, 2), (1, 3)), [0, 3])
        self.assertEqual(self.hopeless((5, 7, 2), (5, 7), (2,)), [2, 5])
        self.assertEqual(self.hopeless((1, 2, 3, 4), (1, 4, 3), (2, 3), (2, 4)), [1, 2])

    def test_marked_names_alone(self):
        self.assertEqual(self.hopeless((1, 3, 6), (0, 1, 3), (1, 6), (2, 4)), [3, 6])


class AllAt(unittest.TestCase):
    def test_one_some_and_all(self):
        self.assertEqual(last("begin 3 0 2 0", "mark 1", "allat"), [1, 0, 1])
        self.assertEqual(last("begin 3 0 3 0", "mark 1", "allat"), [2, 2, 6])
        self.assertEqual(last("begin 4 0 2 0", "mark 1", "allat"), [2, 0, 0])
        self.assertEqual(last("begin 3 2 3 0", "mark 1", "allat"), [0, 0, 2])
        self.assertEqual(last("begin 6 0 2 0", "mark 2", "allat"), [2, 0, 6])
        self.assertEqual(last("begin 5 0 3 0", *(f"mark {i}" for i in range(5)), "allat"), [19, 4, 143])

    def test_the_moves_of_now_make_no_difference_and_stay(self):
        self.assertEqual(ask("begin 3 0 2 2", "mark 1", "allat", "at 1", "allat", "at 0", "allat", "told")[2:],
                         [[1, 0, 1], [2], [1, 0, 1], [1], [1, 0, 1], [3, 0, 2, 0, 1]])

    def test_no_names_marked(self):
        self.assertEqual(last("begin 5 2 3 0", "allat"), [648, 648, 648])
        self.assertEqual(last("begin 3 0 1 0", "allat"), [2, 2, 2])

    def test_one_robot(self):
        self.assertEqual(last("begin 3 0 1 0", "mark 0", "allat"), [1, 1, 1])

    def test_too_many(self):
        for begin in TOO_MANY:
            self.assertEqual(ask(begin, "allat", "mark 0", "allat")[1:], [[-28], [1], [-28]], begin)


class TooMany(unittest.TestCase):
    def test_ahead_of_no_good_rule(self):
        # Three evenly round six places gather by no rule where all go; as each has more rules than 6,000, that is told.
        calls = ("found", "take", "needed 0", "nth 0", "why", "many", "best", "allat")
        for eyes in range(3):
            rings = [f"begin 6 {eyes} 3 2", "markapart"]
            self.assertEqual(ask(*rings, *calls)[2:], [[-28]] * len(calls))

    def test_again_with_fewer_and_back(self):
        begins = ("begin 6 0 3 0", "begin 3 0 1 0", "begin 7 2 3 0", "begin 3 9 3 0")
        self.assertEqual(ask(*(call for begin in begins for call in (begin, "many"))),
                         [[13], [-28], [1], [2, 2], [13], [-28], [-22], [-28]])


if __name__ == "__main__":
    unittest.main()
