import unittest

from calling import GREATEST, ask, last


class Mark(unittest.TestCase):
    def test_answers_how_many_are_marked(self):
        self.assertEqual(ask("begin 5 0 3 0", "mark 3", "mark 0", "mark 4", "marks"),
                         [[9], [1], [2], [3], [3, 0, 3, 4]])

    def test_marked_already(self):
        self.assertEqual(ask("begin 5 0 3 0", "mark 3", "mark 3", "marks", "mark 2"),
                         [[9], [1], [-17], [1, 3], [2]])

    def test_the_last_and_behind_it(self):
        self.assertEqual(ask("begin 7 0 3 0", "mark 7", "mark 8", f"mark {GREATEST}", "marks"),
                         [[16], [1], [-2], [-2], [1, 7]])

    def test_no_such_name_comes_ahead_of_marked(self):
        self.assertEqual(ask("begin 3 0 1 0", "mark 0", "mark 1", "mark 1", "mark 0"),
                         [[1], [1], [-2], [-2], [-17]])
        self.assertEqual(ask("begin 7 0 3 0", "mark 7", "begin 3 0 1 0", "mark 7", "mark 7"),
                         [[16], [1], [1], [-2], [-2]])

    def test_a_gathered_name(self):
        self.assertEqual(ask("begin 4 0 2 0", "name 0", "mark 0", "marks"), [[3], [4, 0, 0, 0, 2], [1], [1, 0]])


class Unmark(unittest.TestCase):
    def test_answers_how_many_are_marked(self):
        self.assertEqual(ask("begin 5 0 3 0", "mark 3", "mark 1", "unmark 3", "marks", "unmark 1", "marks", "mark 3"),
                         [[9], [1], [2], [1], [1, 1], [0], [0], [1]])

    def test_not_marked(self):
        self.assertEqual(ask("begin 5 0 3 0", "unmark 3", "mark 2", "unmark 3", "marks", "unmark 2", "unmark 2"),
                         [[9], [-6], [1], [-6], [1, 2], [0], [-6]])

    def test_the_last_and_behind_it(self):
        self.assertEqual(ask("begin 7 0 3 0", "mark 7", "unmark 8", f"unmark {GREATEST}", "marks", "unmark 7"),
                         [[16], [1], [-2], [-2], [1, 7], [0]])

    def test_no_such_name_comes_ahead_of_not_marked(self):
        self.assertEqual(ask("begin 3 0 1 0", "unmark 0", "unmark 1"), [[1], [-6], [-2]])


class MarkApart(unittest.TestCase):
    def test_those_apart(self):
        self.assertEqual(ask("begin 5 0 3 0", "markapart", "marks"), [[9], [2], [2, 3, 4]])
        self.assertEqual(ask("begin 4 0 2 0", "markapart", "marks"), [[3], [2], [2, 1, 2]])
        self.assertEqual(ask("begin 7 2 3 0", "markapart", "marks"), [[13], [4], [4, 3, 5, 6, 7]])

    def test_three_places(self):
        self.assertEqual(ask("begin 3 0 3 0", "markapart", "marks"), [[4], [1], [1, 2]])

    def test_one_robot_is_apart(self):
        self.assertEqual(ask("begin 3 0 1 0", "markapart", "marks"), [[1], [1], [1, 0]])

    def test_by_robots_not_by_what_is_seen(self):
        for eyes in range(3):
            self.assertEqual(last(f"begin 6 {eyes} 3 0", "markapart", "marks"),
                             last("begin 6 0 3 0", "markapart", "marks"))

    def test_no_others_are_marked(self):
        self.assertEqual(ask("begin 5 0 3 0", "mark 0", "mark 4", "markapart", "marks", "mark 3", "mark 0", "marks"),
                         [[9], [1], [2], [2], [2, 3, 4], [-17], [3], [3, 0, 3, 4]])

    def test_twice_is_as_once(self):
        self.assertEqual(ask("begin 4 0 2 0", "markapart", "unmark 1", "markapart", "marks"),
                         [[3], [2], [1], [2], [2, 1, 2]])


class Marks(unittest.TestCase):
    def test_none(self):
        self.assertEqual(ask("begin 4 0 2 0", "marks", "mark 1", "unmark 1", "marks"), [[3], [0], [1], [0], [0]])

    def test_rising_whatever_the_order_of_marking(self):
        names = (6, 2, 7, 0, 5, 1, 4, 3)
        self.assertEqual(last("begin 7 0 3 0", *(f"mark {i}" for i in names), "marks"), [8, 0, 1, 2, 3, 4, 5, 6, 7])

    def test_changes_nothing(self):
        self.assertEqual(ask("begin 4 0 2 0", "mark 2", "marks", "marks", "mark 2"), [[3], [1], [1, 2], [1, 2], [-17]])


if __name__ == "__main__":
    unittest.main()
