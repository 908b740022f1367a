"""What is told of the object, and of the rule of now."""

import unittest

from calling import GREATEST, ask, last

# Of three robots on three places: view 0 one beside two, 1 all apart, 2 two beside one, 3 all together.
ONE_TO_TWO = ("set 0 2",)


class Told(unittest.TestCase):
    def test_places_eyes_robots_moves_and_marks(self):
        self.assertEqual(last("begin 4 1 2 0", "told"), [4, 1, 2, 0, 0])
        self.assertEqual(last("begin 3 0 1 2", "told"), [3, 0, 1, 2, 0])
        self.assertEqual(last("begin 7 2 3 1", "told"), [7, 2, 3, 1, 0])

    def test_what_changes_them(self):
        calls = ("mark 3", "told", "at 2", "told", "markapart", "told", "unmark 4", "told")
        self.assertEqual(ask("begin 5 0 3 0", *calls),
                         [[9], [1], [5, 0, 3, 0, 1], [0], [5, 0, 3, 2, 1], [2], [5, 0, 3, 2, 2], [1], [5, 0, 3, 2, 1]])

    def test_what_does_not(self):
        refused = ("mark 3", "mark 9", "unmark 0", "at 3", "set 0 3", "begin 2 0 1 0", f"begin {GREATEST} 0 1 0")
        self.assertEqual(last("begin 5 1 3 2", "mark 3", *refused, "told"), [5, 1, 3, 2, 1])
        self.assertEqual(last("begin 4 0 2 0", "mark 1", "take", "found", "allat", "set 1 1", "told"), [4, 0, 2, 0, 1])

    def test_begun_again(self):
        self.assertEqual(last("begin 5 1 3 2", "mark 3", "begin 6 0 2 1", "told"), [6, 0, 2, 1, 0])


class Rule(unittest.TestCase):
    def test_stay_at_first(self):
        self.assertEqual(last("begin 3 0 1 0", "rule"), [1, 0])
        self.assertEqual(last("begin 5 0 3 2", "rule"), [9] + [0] * 9)
        self.assertEqual(last("begin 7 0 3 2", "rule"), [16] + [0] * 16)

    def test_what_is_set(self):
        calls = ("set 0 2", "rule", "set 2 1", "rule", "set 0 1", "rule", "set 2 0", "rule")
        self.assertEqual(ask("begin 4 0 2 0", *calls),
                         [[3], [0], [3, 2, 0, 0], [0], [3, 2, 0, 1], [2], [3, 1, 0, 1], [1], [3, 1, 0, 0]])

    def test_refusals_change_nothing(self):
        self.assertEqual(last("begin 4 0 2 0", "set 0 2", "set 0 3", "set 1 2", "set 3 0", "begin 8 0 2 0", "rule"),
                         [3, 2, 0, 0])

    def test_begun_again(self):
        self.assertEqual(last("begin 4 0 2 0", "set 0 2", "begin 4 0 2 0", "rule"), [3, 0, 0, 0])

    def test_searching_changes_nothing(self):
        calls = ("found", "many", "best", "needed 0", "why", "allat", "nth 0")
        self.assertEqual(last("begin 3 0 2 0", "mark 1", "set 0 1", *calls, "rule"), [2, 1, 0])


class Good(unittest.TestCase):
    def test_of_the_marked_names_how_many_gather(self):
        self.assertEqual(ask("begin 3 0 3 0", *ONE_TO_TWO, "mark 0", "good", "mark 1", "good", "mark 2", "good")[2:],
                         [[1], [1, 1], [2], [2, 2], [3], [2, 3]])

    def test_none_marked(self):
        self.assertEqual(last("begin 3 0 3 0", "good"), [0, 0])
        self.assertEqual(last("begin 7 0 3 2", "set 15 1", "good"), [0, 0])

    def test_good_for_all_but_one(self):
        # Whoever is alone goes to the two, and those all apart stay so.
        marks = ("mark 0", "mark 1", "mark 2")
        self.assertEqual(ask("begin 3 0 3 1", *marks, *ONE_TO_TWO, "good", "unmark 2", "good")[5:],
                         [[2, 3], [2], [2, 2]])

    def test_a_gathered_name_is_good_while_it_rests(self):
        for moves in range(3):
            self.assertEqual(ask(f"begin 4 0 2 {moves}", "mark 0", "good", "set 2 1", "good", "set 2 0", "good"),
                             [[3], [1], [1, 1], [0], [0, 1], [1], [1, 1]])

    def test_by_the_moves_of_now(self):
        self.assertEqual(
            ask("begin 3 0 2 0", "mark 1", "set 0 2", "good", "at 1", "good", "at 2", "good", "set 0 1", "good", "at 1",
                "good", "at 0", "good")[3:],
            [[1, 1], [0], [0, 1], [1], [0, 1], [2], [1, 1], [2], [0, 1], [1], [0, 1]])

    def test_where_rules_are_too_many(self):
        self.assertEqual(last("begin 7 0 3 0", "mark 0", "mark 1", "good"), [1, 2])
        self.assertEqual(last("begin 6 1 3 2", "mark 0", "good"), [1, 1])


class Goods(unittest.TestCase):
    def test_of_all_names_which_gather(self):
        self.assertEqual(ask("begin 3 0 3 0", "goods", *ONE_TO_TWO, "goods", "set 1 1", "goods", "set 3 1", "goods"),
                         [[4], [1, 0], [0], [2, 0, 1], [0], [3, 0, 1, 2], [0], [0]])

    def test_marks_make_no_difference(self):
        self.assertEqual(last("begin 3 0 3 0", *ONE_TO_TWO, "mark 2", "mark 0", "goods"), [2, 0, 1])

    def test_one_robot(self):
        for places in range(3, 8):
            for moves in range(3):
                self.assertEqual(ask(f"begin {places} 2 1 {moves}", "goods", "set 0 1", "goods")[1:],
                                 [[1, 0], [0], [0]])

    def test_two_across_from_each_other(self):
        # Both are even-handed there: where one goes they come beside each other, and then together.
        calls = ("set 0 2", "set 1 2", "set 2 1", "goods")
        self.assertEqual(last("begin 6 0 2 0", *calls), [4, 0, 1, 2, 3])
        # Where all go, both may go round the same way, and are across again; those beside each other change places.
        self.assertEqual(last("begin 6 0 2 2", *calls), [2, 0, 2])
        # Where some go, one alone may, of two that would have met.
        self.assertEqual(last("begin 6 0 2 1", *calls), [1, 0])

    def test_each_even_handed_one_by_a_side_of_its_own(self):
        # Of three all apart on three places each may go the same way round, and then they are so again.
        self.assertEqual(last("begin 3 0 3 2", "set 1 1", *ONE_TO_TWO, "goods"), [2, 0, 1])
        # On four places two across from one go beside it, both by one side, or one by each.
        two_go = ("begin 4 0 3 2", "set 0 2", "set 5 1")
        self.assertEqual(last(*two_go, "goods"), [2, 0, 1])
        # One by each side does no harm if the outer ones of three in a row go to the middle; it does if they go away.
        self.assertEqual(last(*two_go, "set 1 2", "goods"), [4, 0, 1, 2, 3])
        self.assertEqual(last(*two_go, "set 1 1", "goods"), [2, 0, 1])

    def test_of_those_at_one_place_one_may_go_alone(self):
        # The two go to the one: all at once they are together; one alone leaves a two behind that is none.
        two_to_one = ("set 2 2", "goods")
        self.assertEqual(last("begin 3 0 3 2", *two_to_one), [2, 0, 1])
        self.assertEqual(last("begin 3 0 3 1", *two_to_one), [1, 0])
        self.assertEqual(last("begin 3 0 3 0", *two_to_one), [1, 0])

    def test_eyes_that_do_not_tell_one_from_two(self):
        # All go to the place where nobody is, for one and two look alike.
        self.assertEqual(last("begin 3 2 3 2", "set 1 1", "goods"), [2, 0, 1])
        self.assertEqual(last("begin 3 2 3 1", "set 1 1", "goods"), [1, 0])
        self.assertEqual(last("begin 3 2 3 2", "set 1 2", "goods"), [1, 0])

    def test_resting_apart_is_not_gathering(self):
        # Two across stay there, so those beside each other that go away from each other rest, but apart.
        self.assertEqual(last("begin 4 0 2 0", "set 0 1", "goods"), [1, 0])

    def test_all_go_by_way_of_other_names(self):
        # On seven places: from beside each other to three apart, to two apart, to one place.
        self.assertEqual(last("begin 7 0 2 2", "set 0 1", "set 1 2", "set 2 1", "goods"), [4, 0, 1, 2, 3])
        self.assertEqual(last("begin 7 0 2 2", "set 0 1", "set 1 2", "goods"), [2, 0, 2])
        self.assertEqual(last("begin 7 0 2 2", "set 0 1", "set 1 2", "set 2 2", "goods"), [2, 0, 2])

    def test_where_rules_are_too_many(self):
        self.assertEqual(last("begin 7 0 3 1", "goods"), [1, 0])
        self.assertEqual(last("begin 7 0 3 1", "set 15 1", "goods"), [0])


if __name__ == "__main__":
    unittest.main()
