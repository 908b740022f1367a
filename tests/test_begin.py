import unittest

from calling import GREATEST, ask, last


class Begin(unittest.TestCase):
    def test_answers_how_many_views(self):
        for line, views in (
            ("begin 3 0 1 0", 1), ("begin 7 0 1 0", 1), ("begin 3 0 2 0", 2), ("begin 4 0 2 1", 3),
            ("begin 3 0 3 2", 4), ("begin 3 1 3 2", 4), ("begin 3 2 3 2", 3), ("begin 5 0 3 1", 9),
            ("begin 7 0 3 0", 16), ("begin 7 1 3 0", 16), ("begin 7 2 3 0", 13),
        ):
            self.assertEqual(ask(line), [[views]], line)

    def test_refuses_what_is_just_outside(self):
        for line in (
            "begin 2 0 2 0", "begin 8 0 2 0", "begin 4 3 2 0", "begin 4 0 0 0", "begin 4 0 4 0", "begin 4 0 2 3",
            "begin 0 0 0 0", "begin 3 3 4 3",
        ):
            self.assertEqual(ask(line), [[-22]], line)

    def test_refuses_the_greatest_numbers(self):
        for line in (f"begin {GREATEST} 0 2 0", f"begin 4 {GREATEST} 2 0", f"begin 4 0 {GREATEST} 0",
                     f"begin 4 0 2 {GREATEST}", f"begin {GREATEST} {GREATEST} {GREATEST} {GREATEST}"):
            self.assertEqual(ask(line), [[-22]], line)

    def test_takes_all_that_is_inside(self):
        for places in range(3, 8):
            for eyes in range(3):
                for robots in range(1, 4):
                    for moves in range(3):
                        line = f"begin {places} {eyes} {robots} {moves}"
                        self.assertGreater(ask(line)[0][0], 0, line)

    def test_nothing_is_marked_and_all_stay(self):
        self.assertEqual(ask("begin 4 0 2 1", "marks", "set 0 1", "set 1 1", "set 2 1"), [[3], [0], [0], [0], [0]])

    def test_moves_are_as_begun(self):
        for moves in range(3):
            self.assertEqual(last(f"begin 5 0 2 {moves}", "at 0"), [moves])

    def test_again_starts_anew(self):
        self.assertEqual(
            ask("begin 4 0 2 1", "mark 1", "set 0 2", "at 2", "begin 4 0 2 0", "marks", "set 0 1", "at 1", "mark 1"),
            [[3], [1], [0], [1], [3], [0], [0], [0], [1]])

    def test_again_with_another_ring(self):
        self.assertEqual(
            ask("begin 7 0 3 1", "mark 7", "set 15 1", "begin 3 2 2 2", "names", "views", "name 7", "view 15", "name 1",
                "view 0", "who 1", "rules", "at 0", "marks"),
            [[16], [1], [0], [2], [2], [2], [-2], [-2], [3, 0, 1, 1], [1, 1, 0, 0], [1, 1], [6], [2], [0]])

    def test_refused_leaves_all_as_it_was(self):
        before = ("begin 4 0 2 1", "mark 1", "set 0 2")
        after = ("marks", "names", "views", "rules", "name 2", "view 2", "who 0", "set 0 1", "at 0")
        for refused in ("begin 8 1 3 0", "begin 5 3 1 2", "begin 3 0 4 2", "begin 3 2 1 3"):
            self.assertEqual(ask(*before, refused, *after)[3:], [[-22]] + ask(*before, *after)[3:], refused)

    def test_again_after_a_refused_one(self):
        self.assertEqual(ask("begin 2 0 2 0", "names", "begin 4 0 2 0", "names"), [[-22], [-11], [3], [3]])


class At(unittest.TestCase):
    def test_answers_what_it_was(self):
        self.assertEqual(ask("begin 4 0 2 1", "at 0", "at 2", "at 1", "at 1"), [[3], [1], [0], [2], [1]])

    def test_refused_changes_nothing(self):
        self.assertEqual(ask("begin 4 0 2 1", "at 3", f"at {GREATEST}", "at 2", "at 3", "at 0"),
                         [[3], [-22], [-22], [1], [-22], [2]])

    def test_changes_moves_alone(self):
        self.assertEqual(ask("begin 4 0 2 1", "mark 2", "set 0 2", "at 0", "marks", "set 0 1", "names", "rules"),
                         [[3], [1], [0], [1], [1, 2], [2], [3], [12]])


if __name__ == "__main__":
    unittest.main()
