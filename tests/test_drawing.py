"""Point 2: move, clear, row."""

import unittest

from tests.line import CLEAR, HIGHEST_NUMBER, ROW, ask, draw, move, row_of


class MoveTest(unittest.TestCase):
    def test_answers_how_many_points(self):
        self.assertEqual(ask(draw([(1, 2), (3, 4), (3, 4)])), [[1], [2], [3]])

    def test_places_up_to_1023_are_taken(self):
        for x, y in ((0, 0), (1023, 0), (0, 1023), (1023, 1023)):
            self.assertEqual(ask([move(x, y)]), [[1]])

    def test_places_above_1023_are_refused(self):
        for far in (1024, 1025, HIGHEST_NUMBER):
            for x, y in ((far, 0), (0, far), (far, far), (far, 1023), (1023, far)):
                self.assertEqual(ask([move(x, y)]), [[-22]])

    def test_refused_place_adds_no_point(self):
        calls = draw([(0, 0), (1024, 5), (5, 1024), (0, 9)]) + [ROW, CLEAR]
        self.assertEqual(ask(calls), [[1], [-22], [-22], [2], [1, 2], [2]])

    def test_the_64th_and_the_65th_point(self):
        found = ask(draw([(0, 0)] * 65))
        self.assertEqual(found, [[count] for count in range(1, 65)] + [[-12]])

    def test_the_65th_point_is_not_drawn(self):
        calls = draw([(0, 0)] * 64) + [move(9, 0), ROW, CLEAR, move(9, 0)]
        self.assertEqual(ask(calls)[-4:], [[-12], [0], [64], [1]])

    def test_wrong_place_is_told_before_full(self):
        calls = draw([(0, 0)] * 64) + draw([(1024, 0), (0, 1024), (1023, 1023)]) + [CLEAR]
        self.assertEqual(ask(calls)[-4:], [[-22], [-22], [-12], [64]])


class ClearTest(unittest.TestCase):
    def test_without_points(self):
        self.assertEqual(ask([CLEAR, CLEAR]), [[0], [0]])

    def test_with_points(self):
        calls = draw([(0, 0), (9, 0), (9, 9)]) + [CLEAR, ROW, CLEAR, move(1, 1)]
        self.assertEqual(ask(calls)[-4:], [[3], [0], [0], [1]])


class KeptPointsTest(unittest.TestCase):
    def test_nothing_drawn(self):
        self.assertEqual(ask([ROW]), [[0]])

    def test_one_point(self):
        self.assertEqual(row_of([(5, 5)]), [])

    def test_all_in_one_place(self):
        self.assertEqual(row_of([(0, 0)] * 2), [])
        self.assertEqual(row_of([(7, 1023)] * 64), [])

    def test_smallest_step(self):
        self.assertEqual(row_of([(5, 5), (6, 5)]), [0])
        self.assertEqual(row_of([(5, 5), (5, 5), (5, 4), (5, 4)]), [6])

    def test_reach_times_8_equal_to_the_width(self):
        self.assertEqual(row_of([(0, 0), (0, 100), (800, 100)]), [2, 0])
        self.assertEqual(row_of([(0, 0), (0, 1), (8, 1)]), [2, 0])

    def test_reach_times_8_equal_to_the_height(self):
        self.assertEqual(row_of([(0, 0), (100, 0), (100, 800)]), [0, 2])

    def test_reach_times_8_one_less_than_the_size(self):
        self.assertEqual(row_of([(0, 0), (0, 100), (801, 100)]), [0])
        self.assertEqual(row_of([(0, 0), (100, 0), (100, 801)]), [2])
        self.assertEqual(row_of([(0, 0), (0, 1), (9, 1)]), [0])

    def test_reach_one_less(self):
        self.assertEqual(row_of([(0, 0), (0, 99), (800, 99)]), [0])
        self.assertEqual(row_of([(0, 0), (99, 0), (99, 800)]), [2])

    def test_reach_is_the_larger_difference_not_their_sum(self):
        self.assertEqual(row_of([(0, 0), (60, 60), (800, 60)]), [0])
        self.assertEqual(row_of([(0, 0), (100, 60), (100, 800)]), [1, 2])
        self.assertEqual(row_of([(0, 0), (60, 100), (800, 100)]), [1, 0])

    def test_reach_is_from_the_last_kept_point(self):
        self.assertEqual(row_of([(0, 0), (0, 50), (0, 100), (800, 100)]), [2, 0])
        self.assertEqual(row_of([(0, 0), (0, 400), (50, 400), (50, 800), (0, 800)]), [2])

    def test_reach_to_the_left_and_up_counts_as_well(self):
        self.assertEqual(row_of([(800, 800), (800, 700), (0, 700)]), [6, 4])
        self.assertEqual(row_of([(800, 800), (700, 800), (700, 0)]), [4, 6])

    def test_size_is_of_all_points_to_both_sides_of_the_first(self):
        self.assertEqual(row_of([(400, 0), (400, 50), (0, 50), (800, 50)]), [4, 0])
        self.assertEqual(row_of([(0, 400), (50, 400), (50, 0), (50, 800)]), [6, 2])

    def test_coming_back_to_the_last_kept_point_is_no_step(self):
        self.assertEqual(row_of([(0, 0), (400, 0), (400, 10), (400, 0), (400, 400)]), [0, 2])

    def test_coming_back_to_an_earlier_point_is_a_step(self):
        self.assertEqual(row_of([(0, 0), (400, 0), (0, 0)]), [0, 4])

    def test_last_point_may_be_too_near(self):
        self.assertEqual(row_of([(0, 0), (800, 0), (800, 99)]), [0])
        self.assertEqual(row_of([(0, 0), (800, 0), (800, 100)]), [0, 2])


def direction(right, down):
    found = row_of([(512, 512), (512 + right, 512 + down)])
    if len(found) != 1:
        raise AssertionError(f"one direction was asked for: {found}")
    return found[0]


class DirectionTest(unittest.TestCase):
    def test_straight(self):
        steps = {(9, 0): 0, (0, 9): 2, (-9, 0): 4, (0, -9): 6}
        self.assertEqual({step: direction(*step) for step in steps}, steps)

    def test_slanted(self):
        steps = {(9, 9): 1, (-9, 9): 3, (-9, -9): 5, (9, -9): 7, (1, 1): 1, (-1, 1): 3, (-1, -1): 5, (1, -1): 7}
        self.assertEqual({step: direction(*step) for step in steps}, steps)

    def test_just_twice_as_far_to_the_side(self):
        steps = {(100, 50): 0, (100, -50): 0, (-100, 50): 4, (-100, -50): 4, (2, 1): 0, (-2, -1): 4}
        self.assertEqual({step: direction(*step) for step in steps}, steps)

    def test_just_twice_as_far_up_or_down(self):
        steps = {(50, 100): 2, (-50, 100): 2, (50, -100): 6, (-50, -100): 6, (1, 2): 2, (-1, -2): 6}
        self.assertEqual({step: direction(*step) for step in steps}, steps)

    def test_just_more_than_twice(self):
        steps = {
            (101, 50): 0, (101, -50): 0, (-101, 50): 4, (-101, -50): 4,
            (50, 101): 2, (-50, 101): 2, (50, -101): 6, (-50, -101): 6,
        }
        self.assertEqual({step: direction(*step) for step in steps}, steps)

    def test_just_less_than_twice(self):
        slants = {(1, 1): 1, (-1, 1): 3, (-1, -1): 5, (1, -1): 7}
        for (right, down), slant in slants.items():
            for far, near in ((99, 50), (100, 51), (3, 2)):
                self.assertEqual(direction(right * far, down * near), slant)
                self.assertEqual(direction(right * near, down * far), slant)

    def test_farthest(self):
        self.assertEqual(row_of([(0, 0), (1023, 1023)]), [1])
        self.assertEqual(row_of([(1023, 0), (0, 1023)]), [3])
        self.assertEqual(row_of([(1023, 1023), (0, 0)]), [5])
        self.assertEqual(row_of([(0, 1023), (1023, 0)]), [7])


class RowTest(unittest.TestCase):
    def test_like_directions_behind_one_another_are_one(self):
        self.assertEqual(row_of([(0, 0), (100, 0), (200, 0), (300, 40)]), [0])
        self.assertEqual(row_of([(0, 0), (100, 0), (200, 0), (200, 100), (200, 200)]), [0, 2])

    def test_like_directions_with_another_between_are_all_there(self):
        self.assertEqual(row_of([(0, 0), (100, 0), (100, 100), (200, 100), (200, 200)]), [0, 2, 0, 2])

    def test_all_eight_directions_in_order(self):
        ring = [(300, 100), (500, 100), (600, 200), (600, 400), (500, 500), (300, 500), (200, 400), (200, 200),
                (300, 100)]
        self.assertEqual(row_of(ring), [0, 1, 2, 3, 4, 5, 6, 7])

    def test_longest_row(self):
        self.assertEqual(row_of([(0, 0), (1023, 0)] * 32), [0, 4] * 31 + [0])

    def test_drawn_elsewhere_it_is_the_same(self):
        shape = [(0, 0), (0, 100), (3, 101), (800, 101), (750, 51), (750, 1)]
        moved = [(x + 223, y + 900) for x, y in shape]
        self.assertEqual(row_of(shape), [2, 0, 6])
        self.assertEqual(row_of(moved), [2, 0, 6])

    def test_asking_leaves_the_drawing(self):
        calls = draw([(0, 0), (9, 0)]) + [ROW, ROW, move(9, 9), ROW, CLEAR]
        self.assertEqual(ask(calls)[2:], [[1, 0], [1, 0], [3], [2, 0, 2], [3]])


if __name__ == "__main__":
    unittest.main()
