"""How far two rows are apart, as know answers it."""

import heapq
import itertools
import unittest

from tests.line import CLEAR, KNOW, ROW, ask, begin, draw, last, move, points_of, row_of, sign, signs

RIGHT_AND_LEFT = [0, 4] * 31 + [0]
LEFT_AND_RIGHT = [4, 0] * 31 + [4]
DOWN_AND_UP = [2, 6] * 31 + [2]
ROUND = [0, 2, 4, 6] * 15 + [0, 2, 4]
BACKWARDS_ROUND = [4, 2, 0, 6] * 15 + [4, 2, 0]


def distance(taught, drawn):
    answer = last([begin(1000)] + signs(("a", taught)) + sign(drawn) + [KNOW])
    if len(answer) != 2 or answer[1] != 97:
        raise AssertionError(f"it isn't known: {answer}")
    return answer[0]


class OneStepTest(unittest.TestCase):
    def check(self, one, other, cost):
        self.assertEqual(distance(one, other), cost)
        self.assertEqual(distance(other, one), cost)

    def test_alike(self):
        for row in ([0], [7], [0, 2, 4, 6], [1, 0, 1, 0], RIGHT_AND_LEFT, ROUND):
            self.check(row, row, 0)

    def test_one_put_in_or_left_out(self):
        self.check([0], [0, 4], 2)
        self.check([0], [4, 0], 2)
        self.check([0, 4], [0, 2, 4], 2)
        self.check([1, 3, 5, 7], [1, 3, 7], 2)
        self.check([1, 3, 5, 7], [3, 5, 7], 2)
        self.check([1, 3, 5, 7], [1, 3, 5], 2)

    def test_one_changed(self):
        costs = (0, 1, 2, 3, 4, 3, 2, 1)
        for start in range(8):
            for turn in range(8):
                self.check([start], [(start + turn) % 8], costs[turn])

    def test_the_shorter_way_round(self):
        self.check([7], [0], 1)
        self.check([7], [1], 2)
        self.check([6], [1], 3)
        self.check([2, 7, 4], [2, 0, 4], 1)

    def test_one_changed_within_a_row(self):
        for turned, cost in ((3, 1), (4, 2), (5, 3), (6, 4), (7, 3), (1, 1)):
            self.check([0, 2, 0], [0, turned, 0], cost)


class SeveralStepsTest(unittest.TestCase):
    check = OneStepTest.check

    def test_leaving_out_and_putting_in_costs_less(self):
        self.check([0, 4], [4, 0], 4)
        self.check([0, 3], [3, 0], 4)
        self.check([0, 2, 4], [2, 4, 6], 4)
        self.check([0, 3, 6, 1], [3, 6, 1, 4], 4)
        self.check([5, 0, 4, 0], [0, 4, 0, 1], 4)

    def test_changing_costs_less(self):
        self.check([0, 1, 2], [1, 2, 3], 3)
        self.check([0, 7, 6], [7, 6, 5], 3)
        self.check([0, 3], [1, 2], 2)

    def test_both_cost_as_much(self):
        self.check([0], [4], 4)
        self.check([0, 2], [2, 4], 4)
        self.check([0, 3], [7, 0], 4)

    def test_changing_beside_leaving_out_and_putting_in(self):
        self.check([1], [0, 2], 3)
        self.check([1], [4, 2], 3)
        self.check([0, 4, 0, 4], [4, 1, 4, 0], 5)
        self.check([2, 0, 6], [3, 7], 4)

    def test_different_lengths(self):
        self.check([0], [0, 2, 4, 6], 6)
        self.check([6], [0, 2, 4, 6], 6)
        self.check([5], [0, 2, 4, 6], 7)
        self.check([0, 4], [0, 2, 4, 6, 0, 4], 8)

    def test_longest_rows(self):
        for row in (RIGHT_AND_LEFT, LEFT_AND_RIGHT, DOWN_AND_UP, ROUND, BACKWARDS_ROUND):
            self.assertEqual(len(points_of(row)), 64)
            self.assertEqual(row_of(points_of(row)), row)
        self.check(RIGHT_AND_LEFT, LEFT_AND_RIGHT, 4)
        self.check(RIGHT_AND_LEFT, DOWN_AND_UP, 126)
        self.check(RIGHT_AND_LEFT, RIGHT_AND_LEFT[:-1], 2)
        self.check(ROUND, BACKWARDS_ROUND, 128)
        self.check(RIGHT_AND_LEFT, BACKWARDS_ROUND, 94)

    def test_longest_row_and_shortest(self):
        self.check(RIGHT_AND_LEFT, [0], 124)
        self.check(RIGHT_AND_LEFT, [2], 126)
        self.check(RIGHT_AND_LEFT, [1], 125)


def neighbours(row, longest):
    """Each row that one step makes of this one, and what it costs; a turn by several eighths is several steps."""
    for place in range(len(row)):
        yield row[:place] + row[place + 1:], 2
        for turn in (1, 7):
            yield row[:place] + ((row[place] + turn) % 8,) + row[place + 1:], 1
    if len(row) < longest:
        for place in range(len(row) + 1):
            for direction in range(8):
                yield row[:place] + (direction,) + row[place:], 2


def least_costs(row, longest):
    """What it costs at least to make each row of this one, found by trying every way, the cheapest ahead."""
    costs = {}
    waiting = [(0, row)]
    while waiting:
        cost, reached = heapq.heappop(waiting)
        if reached not in costs:
            costs[reached] = cost
            for other, more in neighbours(reached, longest):
                if other not in costs:
                    heapq.heappush(waiting, (cost + more, other))
    return costs


def rows_up_to(longest):
    for length in range(1, longest + 1):
        for row in itertools.product(range(8), repeat=length):
            if all(one != other for one, other in zip(row, row[1:])):
                yield row


class LeastTest(unittest.TestCase):
    def test_no_way_costs_less(self):
        drawn = list(rows_up_to(3))
        for taught in ((0,), (5, 1), (0, 3, 6), (2, 6, 2)):
            calls = [begin(1000)] + signs(("a", taught))
            for row in drawn:
                calls += sign(row) + [KNOW, CLEAR]
            distances = [answer[0] for call, answer in zip(calls, ask(calls)) if call == KNOW]
            costs = least_costs(taught, 4)
            self.assertEqual(distances, [costs[row] for row in drawn])


class AskedAgainTest(unittest.TestCase):
    """A distance is the same whatever was drawn and asked ahead of it."""

    def test_while_the_drawing_grows(self):
        calls = [begin(1000)] + signs(("a", DOWN_AND_UP))
        for point in sign(ROUND):
            calls += [point, KNOW, KNOW]
        distances = [answer[0] for call, answer in zip(calls, ask(calls)) if call == KNOW]
        self.assertEqual(distances[:2], [-61, -61])
        expected = [distance(DOWN_AND_UP, ROUND[:length]) for length in range(1, 64)]
        self.assertEqual(distances[2::2], expected)
        self.assertEqual(distances[3::2], expected)

    def test_where_a_point_makes_the_row_shorter(self):
        calls = [begin(1000)] + signs(("a", [2, 0, 6])) + draw([(0, 0), (0, 10), (10, 10), (10, 0)]) + [ROW, KNOW]
        calls += [move(1000, 0), ROW, KNOW]
        self.assertEqual(ask(calls)[-5:], [[3, 2, 0, 6], [0, 97], [5], [1, 0], [4, 97]])

    def test_one_row_behind_another(self):
        rows = [ROUND, [0, 2, 4], [0, 2, 4, 6], [0], RIGHT_AND_LEFT, [0, 4], ROUND, [1, 2, 4], [0, 2, 4]]
        for taught in ([0, 2, 4], RIGHT_AND_LEFT, [7]):
            calls = [begin(1000)] + signs(("a", taught))
            for row in rows:
                calls += sign(row) + [KNOW, CLEAR]
            distances = [answer[0] for call, answer in zip(calls, ask(calls)) if call == KNOW]
            self.assertEqual(distances, [distance(taught, row) for row in rows])


if __name__ == "__main__":
    unittest.main()
