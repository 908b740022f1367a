import unittest

from calling import CALLS, GREATEST, ask, flat
from rulesfound.rings import answers

SEARCHING = ("rule", "good", "goods", "found", "take", "many", "best", "needed 0", "why", "allat", "nth 0", "told")
WITH_ONE = ("at", "name", "view", "who", "mark", "unmark", "needed", "nth")


def with_arguments(call, number):
    return f"{call} {number}" if call in WITH_ONE else f"set {number} {number}" if call == "set" else call


class NotBegun(unittest.TestCase):
    def test_all_else_is_refused(self):
        for call in CALLS[1:]:
            for number in (0, 3, GREATEST):
                line = with_arguments(call, number)
                self.assertEqual(ask(line, "names"), [[-11], [-11]], line)

    def test_a_refused_begin_does_not_count(self):
        self.assertEqual(ask("begin 8 0 2 0", "at 3", "mark 9", "set 9 9", "marks", "begin 3 0 1 4", "rules"),
                         [[-22], [-11], [-11], [-11], [-11], [-22], [-11]])

    def test_what_comes_ahead_of_a_begin_changes_nothing(self):
        self.assertEqual(ask("mark 0", "set 0 1", "at 2", "begin 4 0 2 1", "marks", "set 0 0", "at 0"),
                         [[-11], [-11], [-11], [3], [0], [0], [1]])


class Interface(unittest.TestCase):
    def test_numbers_handed_in_and_given_back(self):
        self.assertEqual(answers([0, 4, 0, 2, 1]), [1, 3])
        self.assertEqual(answers([2]), [1, -11])
        self.assertEqual(
            answers([0, 3, 0, 3, 2, 7, 1, 13, 14, 15, 16, 17, 18, 19, 20, 0, 20, 4, 21, 22, 23, 5, 23, 6, 24, 13, 14,
                     7, 2, 16, 17, 20, 3, 21]),
            [1, 4, 1, 1, 5, 4, 0, 0, 0, 0, 2, 0, 1, 2, 1, 0, 5, 4, 0, 0, 2, 0, 1, 0, 2, 6, 36, 5, 1, 0, 0, 2, 0, 1, 7,
             1, -2, 1, -6, 3, 2, 2, 6, 5, 4, 2, 1, 0, 0, 1, -33, 5, 3, 0, 3, 2, 1, 5, 4, 0, 0, 2, 0, 2, 1, 1,
             1, 2, 1, -33, 1, -33, 1, -33, 2, 1, 2])
        self.assertEqual(
            answers([0, 4, 0, 2, 1, 1, 0, 2, 3, 1, 4, 5, 1, 6, 2, 7, 1, 8, 0, 9, 10, 11, 12, 0, 2, 12, 1, 2, 3, 3]),
            [1, 3, 1, 1, 1, 3, 5, 4, 0, 0, 1, 1, 1, 3, 5, 1, 1, 0, 1, 0, 2, 1, 1, 1, 1, 1, -6, 1, 2, 3, 2, 1, 2,
             1, 12, 1, 0, 1, -22, 1, -2])

    def test_what_is_given_back_is_a_list_of_whole_numbers(self):
        given = answers(flat(("begin 5 0 3 1", "at 2", "names", "name 1", "views", "view 4", "who 1", "mark 1",
                              "unmark 1", "markapart", "marks", "rules", "set 4 1", "set 4 2", *SEARCHING)))
        self.assertIs(type(given), list)
        self.assertEqual({type(number) for number in given}, {int})

    def test_what_is_handed_in_is_not_changed(self):
        line = flat(("begin 5 0 3 1", "at 2", "name 1", "view 4", "who 1", "mark 1", "unmark 1", "markapart",
                     "marks", "set 4 1", "set 4 2", *SEARCHING, "begin 9 9 9 9", "begin 3 0 1 0", "mark 0"))
        before = list(line)
        answers(line)
        self.assertEqual(line, before)

    def test_nothing_is_kept_from_one_time_to_the_next(self):
        line = flat(("begin 4 0 2 1", "mark 1", "set 0 2", "at 2", "markapart", "marks", "unmark 2", "set 0 1"))
        first = answers(line)
        self.assertEqual(answers(line), first)
        self.assertEqual(answers(flat(("names",))), [1, -11])
        self.assertEqual(answers(flat(("begin 4 0 2 0", "marks", "set 0 0", "at 0"))), [1, 3, 1, 0, 1, 0, 1, 0])
        self.assertEqual(answers(line), first)

    def test_nothing_that_was_found_is_kept(self):
        line = flat(("begin 3 0 2 0", "mark 1", *SEARCHING))
        first = answers(line)
        answers(flat(("begin 3 0 2 2", "mark 1", *SEARCHING)))
        answers(flat(("begin 3 2 3 1", "mark 2", *SEARCHING)))
        self.assertEqual(answers(line), first)
        self.assertEqual(ask("begin 3 0 2 1", "rule", "told", "many")[1:], [[2, 0, 0], [3, 0, 2, 1, 0], [6, 6]])

    def test_what_is_given_back_may_be_changed(self):
        line = flat(("begin 4 0 2 1", "name 1", "view 0", "who 0"))
        first = answers(line)
        kept = list(first)
        first.clear()
        self.assertEqual(answers(line), kept)

    def test_thirty_calls(self):
        found = ask("begin 7 0 3 0", *["who 7"] * 29)
        self.assertEqual(len(found), 30)
        self.assertEqual(found[1:], [found[1]] * 29)
        found = ask(*["begin 5 0 3 0", "allat"] * 15)
        self.assertEqual(found, [[9], [5832] * 3] * 15)


if __name__ == "__main__":
    unittest.main()
