"""Point 4: know; and a of what holds: what's known is the nearest, within the limit, and of one name."""

import unittest

from tests.line import (
    CLEAR, COUNT, KNOW, ROW, TAKE, TEXT, ask, begin, draw, forget, known, last, move, row_of, sign, signs,
    teach,
)

NO_DIRECTIONS = ([], [(5, 5)], [(5, 5)] * 2, [(0, 0)] * 64, [(1023, 1023)] * 64)


class NotDrawnTest(unittest.TestCase):
    def test_without_signs(self):
        for points in NO_DIRECTIONS:
            self.assertEqual(last(draw(points) + [KNOW]), [-61])
            self.assertEqual(last([begin(1000)] + draw(points) + [KNOW]), [-61])

    def test_with_signs(self):
        for points in NO_DIRECTIONS:
            self.assertEqual(last(signs(("a", [0])) + draw(points) + [KNOW]), [-61])
            self.assertEqual(last([begin(1000)] + signs(("a", [0])) + draw(points) + [KNOW]), [-61])

    def test_it_is_told_before_two_names_as_near(self):
        alike = [begin(1000)] + signs(("a", [0]), ("b", [0]))
        for points in NO_DIRECTIONS:
            self.assertEqual(last(alike + draw(points) + [KNOW]), [-61])

    def test_drawing_that_was_cleared_or_taught(self):
        self.assertEqual(last(signs(("a", [0])) + sign([0]) + [CLEAR, KNOW]), [-61])
        self.assertEqual(last(signs(("a", [0])) + [KNOW]), [-61])


class LimitTest(unittest.TestCase):
    def test_no_signs(self):
        for limit in (0, 1, 1000):
            self.assertEqual(last([begin(limit)] + sign([0]) + [KNOW]), [-33])
        self.assertEqual(last(sign([0, 2]) + [KNOW]), [-33])

    def test_at_first_the_limit_is_0(self):
        self.assertEqual(last(signs(("a", [0])) + sign([0]) + [KNOW]), known(0, "a"))
        self.assertEqual(last(signs(("a", [0])) + sign([1]) + [KNOW]), [-33])

    def test_limit_of_0(self):
        taught = [begin(0)] + signs(("a", [0, 2]))
        self.assertEqual(last(taught + sign([0, 2]) + [KNOW]), known(0, "a"))
        for row in ([0, 3], [0, 1], [7, 2], [0], [2], [0, 2, 4]):
            self.assertEqual(last(taught + sign(row) + [KNOW]), [-33])

    def test_just_at_the_limit_and_just_beyond(self):
        for row, distance in (([1], 1), ([2], 2), ([3], 3), ([4], 4), ([4, 0, 4], 4), ([0, 2, 4, 6], 6)):
            for limit in range(distance):
                self.assertEqual(last([begin(limit)] + signs(("a", [0])) + sign(row) + [KNOW]), [-33])
            for limit in (distance, distance + 1, 1000):
                calls = [begin(limit)] + signs(("a", [0])) + sign(row) + [KNOW]
                self.assertEqual(last(calls), known(distance, "a"))

    def test_longest_rows_just_at_the_limit_and_just_beyond(self):
        calls = signs(("a", [0, 4] * 31 + [0])) + sign([2, 6] * 31 + [2]) + [KNOW]
        self.assertEqual(last([begin(125)] + calls), [-33])
        self.assertEqual(last([begin(126)] + calls), known(126, "a"))

    def test_refused_begin_leaves_the_limit(self):
        calls = [begin(1)] + signs(("a", [0])) + [begin(1001)]
        self.assertEqual(last(calls + sign([1]) + [KNOW]), known(1, "a"))
        self.assertEqual(last(calls + sign([2]) + [KNOW]), [-33])

    def test_begin_sets_another_limit(self):
        again = signs(("a", [0])) + sign([1]) + [KNOW]
        self.assertEqual(last([begin(1), begin(0)] + again), [-33])
        self.assertEqual(last([begin(0), begin(1)] + again), known(1, "a"))


class NearestTest(unittest.TestCase):
    def test_the_nearest_wherever_it_stands(self):
        rows = (("c", [3]), ("b", [2]), ("a", [1]))
        for turn in range(3):
            taught = [begin(1000)] + signs(*(rows[turn:] + rows[:turn]))
            self.assertEqual(last(taught + sign([0]) + [KNOW]), known(1, "a"))
            self.assertEqual(last(taught + sign([2]) + [KNOW]), known(0, "b"))
            self.assertEqual(last(taught + sign([4]) + [KNOW]), known(1, "c"))

    def test_long_names(self):
        taught = [begin(4)] + signs(("abcdefgh", [0]), ("zyxwvuts", [4]))
        self.assertEqual(last(taught + sign([1]) + [KNOW]), known(1, "abcdefgh"))
        self.assertEqual(last(taught + sign([3]) + [KNOW]), known(1, "zyxwvuts"))

    def test_name_taught_twice_is_known_by_either(self):
        taught = signs(("a", [0]), ("b", [2]), ("a", [4]))
        self.assertEqual(last(taught + sign([0]) + [KNOW]), known(0, "a"))
        self.assertEqual(last(taught + sign([4]) + [KNOW]), known(0, "a"))
        self.assertEqual(last(taught + sign([2]) + [KNOW]), known(0, "b"))

    def test_the_40th_sign(self):
        taught = [begin(2)] + signs(*([("a", [4])] * 39 + [("b", [0])]))
        self.assertEqual(last(taught + sign([0]) + [KNOW]), known(0, "b"))

    def test_the_41st_sign_is_not_known(self):
        taught = signs(*([("a", [4])] * 40 + [("b", [0])])) + [CLEAR]
        self.assertEqual(last(taught + sign([0]) + [KNOW]), [-33])

    def test_sign_has_the_row_of_what_was_drawn(self):
        points = [(0, 0), (0, 100), (3, 100), (800, 100)]
        taught = draw(points) + [teach("a")]
        self.assertEqual(row_of(points), [2, 0])
        self.assertEqual(last(taught + sign([2, 0]) + [KNOW]), known(0, "a"))
        self.assertEqual(last(taught + sign([0, 2]) + [KNOW]), [-33])


class AsNearTest(unittest.TestCase):
    def check(self, limit, taught, drawn, answer):
        for order in (taught, taught[::-1]):
            self.assertEqual(last([begin(limit)] + signs(*order) + sign(drawn) + [KNOW]), answer)

    def test_two_names_that_look_the_same(self):
        self.check(0, (("a", [0, 2]), ("b", [0, 2])), [0, 2], [-41])
        self.check(1000, (("a", [0, 2]), ("b", [0, 2])), [0, 2], [-41])
        self.check(1000, (("a", [0, 2]), ("b", [0, 2])), [4], [-41])

    def test_two_names_that_look_different(self):
        self.check(1, (("a", [0]), ("b", [2])), [1], [-41])
        self.check(2, (("a", [0]), ("b", [0, 2, 0])), [0, 2], [-41])

    def test_names_of_which_one_begins_the_other(self):
        self.check(0, (("a", [0]), ("aa", [0])), [0], [-41])

    def test_one_of_the_two_names_was_taught_again(self):
        for names in ("aab", "aba", "baa", "bba", "bab", "abb"):
            self.check(0, tuple((name, [0]) for name in names), [0], [-41])
        self.check(1, (("a", [0]), ("b", [2]), ("a", [6])), [1], [-41])
        self.check(1, (("a", [0]), ("a", [0]), ("b", [2])), [1], [-41])

    def test_many_of_one_name_and_one_of_another(self):
        self.check(0, (("a", [0]),) * 39 + (("b", [0]),), [0], [-41])

    def test_one_name_taught_twice_is_no_other(self):
        self.check(0, (("a", [0]), ("a", [0])), [0], known(0, "a"))
        self.check(1, (("a", [0]), ("a", [2])), [1], known(1, "a"))
        self.check(4, (("a", [0]), ("b", [4]), ("a", [2])), [1], known(1, "a"))
        self.check(0, (("a", [0]),) * 40, [0], known(0, "a"))

    def test_others_as_near_as_each_other_but_farther_than_the_nearest(self):
        self.check(1000, (("a", [0]), ("b", [1]), ("c", [1])), [0], known(0, "a"))
        self.check(1000, (("b", [1]), ("a", [0]), ("c", [7])), [0], known(0, "a"))
        self.check(1000, (("b", [2]), ("c", [6]), ("a", [1])), [0], known(1, "a"))

    def test_other_just_farther(self):
        self.check(1000, (("a", [0]), ("b", [3])), [1], known(1, "a"))
        self.check(1000, (("a", [0]), ("b", [3])), [2], known(1, "b"))

    def test_beyond_the_limit_is_told_before_two_names_as_near(self):
        self.check(0, (("a", [0]), ("b", [2])), [1], [-33])
        self.check(3, (("a", [0]), ("b", [0])), [4], [-33])
        self.check(4, (("a", [0]), ("b", [0])), [4], [-41])


class ForgottenTest(unittest.TestCase):
    def test_it_is_not_known_any_more(self):
        taught = [begin(1000)] + signs(("a", [0]), ("a", [2]))
        self.assertEqual(ask(taught + sign([0]) + [KNOW, forget("a"), KNOW])[-3:], [known(0, "a"), [2], [-33]])

    def test_another_is_nearest_then(self):
        taught = [begin(3)] + signs(("a", [0]), ("b", [2]), ("a", [1]), ("c", [3]))
        calls = taught + sign([0]) + [KNOW, forget("a"), KNOW, forget("b"), KNOW, forget("c"), KNOW]
        self.assertEqual(ask(calls)[-7::2], [known(0, "a"), known(2, "b"), known(3, "c"), [-33]])

    def test_the_other_that_looked_the_same_is_known_then(self):
        calls = signs(("a", [0]), ("b", [0])) + sign([0]) + [KNOW, forget("a"), KNOW]
        self.assertEqual(ask(calls)[-3:], [[-41], [1], known(0, "b")])

    def test_two_others_are_as_near_then(self):
        calls = [begin(1)] + signs(("a", [0]), ("b", [1]), ("c", [7])) + sign([0]) + [KNOW, forget("a"), KNOW]
        self.assertEqual(ask(calls)[-3:], [known(0, "a"), [1], [-41]])

    def test_taught_anew_it_is_known_by_the_new_row_alone(self):
        taught = signs(("a", [0])) + [forget("a")] + signs(("a", [4]))
        self.assertEqual(last(taught + sign([0]) + [KNOW]), [-33])
        self.assertEqual(last(taught + sign([4]) + [KNOW]), known(0, "a"))

    def test_begin_forgets_the_signs(self):
        self.assertEqual(last(signs(("a", [0])) + [begin(1000)] + sign([0]) + [KNOW]), [-33])


class ChangesNothingTest(unittest.TestCase):
    def check(self, calls, answer):
        looks = [COUNT, ROW, TEXT]
        found = ask(calls + looks + [KNOW] + looks + [KNOW])[-8:]
        self.assertEqual(found[:4], found[4:])
        self.assertEqual(found[3], answer)

    def test_known(self):
        self.check(signs(("a", [0])) + sign([0]), known(0, "a"))
        self.check(signs(("a", [0])) + sign([0]) + [TAKE] + sign([0]), known(0, "a"))

    def test_not_known(self):
        self.check(signs(("a", [0])) + sign([0]) + [TAKE, move(5, 5)], [-61])
        self.check(signs(("a", [0])) + sign([0]) + [TAKE] + sign([1, 2]), [-33])
        self.check(signs(("a", [0]), ("b", [4])) + sign([0]) + [TAKE] + signs(("a", [4])) + sign([4]), [-41])

    def test_drawing_goes_on(self):
        taught = [begin(0)] + signs(("l", [2, 0]), ("i", [2]))
        calls = taught + draw([(0, 0)]) + [KNOW, move(0, 90), KNOW, move(60, 90), KNOW, KNOW, CLEAR, KNOW]
        expected = [[-61], [2], known(0, "i"), [3], known(0, "l"), known(0, "l"), [3], [-61]]
        self.assertEqual(ask(calls)[-8:], expected)

    def test_what_is_known_can_still_be_taught(self):
        calls = signs(("a", [0])) + sign([0]) + [KNOW, teach("b")] + sign([0]) + [KNOW]
        self.assertEqual(last(calls), [-41])


if __name__ == "__main__":
    unittest.main()
