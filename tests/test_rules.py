import unittest

from calling import GREATEST, ask, last


class Rules(unittest.TestCase):
    def test_how_many(self):
        for begin, rules in (
            ("begin 3 0 1 0", 2), ("begin 7 2 1 0", 2), ("begin 3 0 2 0", 6), ("begin 4 0 2 0", 12),
            ("begin 5 0 2 0", 18), ("begin 3 0 3 0", 36), ("begin 3 2 3 0", 12), ("begin 5 0 3 0", 5832),
            ("begin 5 1 3 0", 5832), ("begin 5 2 3 0", 648),
        ):
            self.assertEqual(last(begin, "rules"), [rules], begin)

    def test_too_many_to_go_through_are_told_all_the_same(self):
        self.assertEqual(last("begin 6 2 3 0", "rules"), [11664])
        self.assertEqual(last("begin 7 0 3 0", "rules"), [8503056])

    def test_marks_moves_and_what_is_set_do_not_matter(self):
        self.assertEqual(last("begin 4 0 2 0", "mark 0", "at 2", "set 0 2", "rules"), [12])


class Set(unittest.TestCase):
    def test_answers_what_it_told(self):
        self.assertEqual(ask("begin 4 0 2 0", "set 0 2", "set 0 1", "set 0 1", "set 0 0", "set 0 0"),
                         [[3], [0], [2], [1], [1], [0]])

    def test_each_view_by_itself(self):
        self.assertEqual(ask("begin 4 0 2 0", "set 0 2", "set 1 1", "set 2 0", "set 0 0", "set 1 0", "set 2 0"),
                         [[3], [0], [0], [0], [2], [1], [0]])

    def test_above_two(self):
        self.assertEqual(ask("begin 4 0 2 0", "set 0 1", "set 0 3", f"set 0 {GREATEST}", "set 0 2"),
                         [[3], [0], [-22], [-22], [1]])

    def test_above_one_of_an_even_handed_view(self):
        calls = ("set 1 1", "set 1 2", "set 1 3", f"set 1 {GREATEST}", "set 1 0")
        self.assertEqual(ask("begin 4 0 2 0", "view 1", *calls),
                         [[3], [1, 1, 0, 1, 0], [0], [-22], [-22], [-22], [1]])

    def test_the_last_and_behind_it(self):
        self.assertEqual(ask("begin 7 0 3 0", "set 15 1", "set 16 1", f"set {GREATEST} 0", "set 15 0"),
                         [[16], [0], [-2], [-2], [1]])

    def test_no_such_view_comes_ahead_of_what_is_done(self):
        self.assertEqual(ask("begin 3 0 1 0", "set 1 3", "set 1 2", f"set {GREATEST} {GREATEST}", "set 0 2"),
                         [[1], [-2], [-2], [-2], [-22]])

    def test_marks_stay(self):
        self.assertEqual(last("begin 4 0 2 0", "mark 1", "set 0 2", "marks"), [1, 1])


if __name__ == "__main__":
    unittest.main()
