import unittest

from calling import GREATEST, ask, last


def all_names(begin):
    many = last(begin, "names")[0]
    return ask(begin, *(f"name {i}" for i in range(many)))[1:]


def all_views(begin):
    many = last(begin, "views")[0]
    return ask(begin, *(f"view {v}" for v in range(many)))[1:]


def all_who(begin):
    many = last(begin, "names")[0]
    return ask(begin, *(f"who {i}" for i in range(many)))[1:]


class Names(unittest.TestCase):
    def test_how_many(self):
        for robots, counts in ((1, (1, 1, 1, 1, 1)), (2, (2, 3, 3, 4, 4)), (3, (3, 4, 5, 7, 8))):
            for places, many in zip(range(3, 8), counts):
                for eyes in range(3):
                    self.assertEqual(last(f"begin {places} {eyes} {robots} 0", "names"), [many])

    def test_one_robot(self):
        self.assertEqual(all_names("begin 3 0 1 0"), [[3, 0, 0, 1]])
        self.assertEqual(all_names("begin 7 0 1 0"), [[7, 0, 0, 0, 0, 0, 0, 1]])

    def test_two_robots(self):
        self.assertEqual(all_names("begin 4 0 2 0"), [[4, 0, 0, 0, 2], [4, 0, 0, 1, 1], [4, 0, 1, 0, 1]])

    def test_three_places(self):
        self.assertEqual(all_names("begin 3 0 3 0"), [[3, 0, 0, 3], [3, 0, 1, 2], [3, 1, 1, 1]])

    def test_seven_places_three_robots(self):
        self.assertEqual(all_names("begin 7 0 3 0"), [
            [7, 0, 0, 0, 0, 0, 0, 3], [7, 0, 0, 0, 0, 0, 1, 2], [7, 0, 0, 0, 0, 1, 0, 2], [7, 0, 0, 0, 0, 1, 1, 1],
            [7, 0, 0, 0, 1, 0, 0, 2], [7, 0, 0, 0, 1, 0, 1, 1], [7, 0, 0, 1, 0, 0, 1, 1], [7, 0, 0, 1, 0, 1, 0, 1]])

    def test_eyes_do_not_change_names(self):
        for eyes in (1, 2):
            self.assertEqual(all_names(f"begin 6 {eyes} 3 0"), all_names("begin 6 0 3 0"))

    def test_behind_the_last(self):
        self.assertEqual(ask("begin 7 0 3 0", "name 7", "name 8", f"name {GREATEST}")[1:],
                         [[7, 0, 0, 1, 0, 1, 0, 1], [-2], [-2]])
        self.assertEqual(ask("begin 3 0 1 0", "name 0", "name 1")[1:], [[3, 0, 0, 1], [-2]])


class Views(unittest.TestCase):
    def test_one_robot_is_even_handed(self):
        for eyes in range(3):
            self.assertEqual(all_views(f"begin 3 {eyes} 1 0"), [[1, 1, 0, 0]])
            self.assertEqual(all_views(f"begin 7 {eyes} 1 0"), [[1, 1, 0, 0, 0, 0, 0, 0]])

    def test_two_robots(self):
        self.assertEqual(all_views("begin 4 0 2 0"), [[0, 1, 0, 0, 1], [1, 1, 0, 1, 0], [1, 2, 0, 0, 0]])
        self.assertEqual(all_views("begin 4 2 2 0"), [[1, 1, 0, 0, 0], [0, 1, 0, 0, 1], [1, 1, 0, 1, 0]])

    def test_three_places_with_each_of_the_eyes(self):
        self.assertEqual(all_views("begin 3 0 3 0"), [[0, 1, 0, 2], [1, 1, 1, 1], [0, 2, 0, 1], [1, 3, 0, 0]])
        self.assertEqual(all_views("begin 3 1 3 0"), [[0, 1, 0, 2], [1, 1, 1, 1], [1, 2, 0, 0], [0, 2, 0, 1]])
        self.assertEqual(all_views("begin 3 2 3 0"), [[1, 1, 0, 0], [0, 1, 0, 1], [1, 1, 1, 1]])

    def test_five_places_three_robots(self):
        self.assertEqual(all_views("begin 5 0 3 0"), [
            [0, 1, 0, 0, 0, 2], [0, 1, 0, 0, 1, 1], [0, 1, 0, 0, 2, 0], [0, 1, 0, 1, 0, 1], [1, 1, 0, 1, 1, 0],
            [1, 1, 1, 0, 0, 1], [0, 2, 0, 0, 0, 1], [0, 2, 0, 0, 1, 0], [1, 3, 0, 0, 0, 0]])

    def test_how_many_is_what_begin_answers(self):
        for places in range(3, 8):
            for eyes in range(3):
                begin = f"begin {places} {eyes} 3 0"
                self.assertEqual(last(begin, "views"), ask(begin)[0])

    def test_behind_the_last(self):
        self.assertEqual(ask("begin 7 0 3 0", "view 15", "view 16", f"view {GREATEST}")[1:],
                         [[1, 3, 0, 0, 0, 0, 0, 0], [-2], [-2]])
        self.assertEqual(ask("begin 3 2 1 0", "view 0", "view 1")[1:], [[1, 1, 0, 0], [-2]])


class Who(unittest.TestCase):
    def test_one_robot(self):
        self.assertEqual(all_who("begin 3 0 1 0"), [[1, 0]])

    def test_two_robots(self):
        self.assertEqual(all_who("begin 4 0 2 0"), [[1, 2], [1, 0], [1, 1]])

    def test_in_the_order_of_places_not_of_views(self):
        # The lone robot stands ahead of the two side by side, but its view behind theirs.
        self.assertEqual(last("begin 5 0 3 0", "name 4"), [5, 0, 1, 0, 1, 1])
        self.assertEqual(all_who("begin 5 0 3 0"), [[1, 8], [2, 0, 6], [2, 2, 7], [2, 1, 5], [2, 4, 3]])

    def test_each_view_once(self):
        self.assertEqual(all_who("begin 3 0 3 0"), [[1, 3], [2, 0, 2], [1, 1]])

    def test_three_views_in_one_name(self):
        self.assertEqual(last("begin 7 0 3 0", "name 5"), [7, 0, 0, 0, 1, 0, 1, 1])
        found = ask("begin 7 0 3 0", "who 5", *(f"view {v}" for v in range(16)))
        rows = [found[2 + v] for v in found[1][1:]]
        self.assertEqual(rows, [[0, 1, 0, 0, 0, 1, 1, 0], [0, 1, 0, 1, 0, 0, 0, 1], [0, 1, 0, 0, 0, 1, 0, 1]])

    def test_eyes_that_do_not_tell_one_from_two(self):
        self.assertEqual(ask("begin 4 1 3 0", "name 1", "who 1")[1:], [[4, 0, 0, 1, 2], [2, 0, 5]])
        self.assertEqual(ask("begin 4 2 3 0", "name 1", "who 1", "view 1")[1:],
                         [[4, 0, 0, 1, 2], [1, 1], [0, 1, 0, 0, 1]])

    def test_eyes_that_do_not_tell_two_from_three(self):
        self.assertEqual(ask("begin 4 0 3 0", "who 0", "view 6", "view 5")[1:],
                         [[1, 6], [1, 3, 0, 0, 0], [1, 2, 0, 1, 0]])
        self.assertEqual(ask("begin 4 1 3 0", "who 0", "view 4", "view 6")[1:],
                         [[1, 4], [1, 2, 0, 0, 0], [1, 2, 0, 1, 0]])

    def test_no_view_is_had_in_two_names(self):
        # With up to three robots what is seen always tells the name, whatever the eyes.
        for places in range(3, 8):
            for eyes in range(3):
                for robots in range(1, 4):
                    begin = f"begin {places} {eyes} {robots} 0"
                    had = [view for answer in all_who(begin) for view in answer[1:]]
                    self.assertEqual(sorted(had), list(range(last(begin, "views")[0])), begin)

    def test_the_same_row_had_in_names_of_two_beginnings(self):
        self.assertEqual(ask("begin 5 2 2 0", "who 1", "view 1", "begin 5 2 3 0", "who 1", "view 1"),
                         [[3], [1, 1], [0, 1, 0, 0, 0, 1], [7], [1, 1], [0, 1, 0, 0, 0, 1]])

    def test_two_across_from_each_other(self):
        self.assertEqual(ask("begin 6 0 2 0", "name 3", "who 3", "view 2")[1:],
                         [[6, 0, 0, 1, 0, 0, 1], [1, 2], [1, 1, 0, 0, 1, 0, 0]])

    def test_behind_the_last(self):
        self.assertEqual(ask("begin 7 2 3 0", "who 7", "who 8", f"who {GREATEST}")[2:], [[-2], [-2]])
        self.assertEqual(len(last("begin 7 2 3 0", "who 7")), 3)


if __name__ == "__main__":
    unittest.main()
