"""Point 4: take."""

import unittest

from tests.line import (
    BACK, CLEAR, COUNT, KNOW, ROW, TAKE, TEXT, ask, begin, draw, forget, known, last, move, sign, signs, written,
)

TAUGHT = [begin(3)] + signs(("a", [0]), ("bc", [4]), ("d", [2, 6]), ("e", [2, 6]))
LOOKS = [COUNT, ROW, TEXT, KNOW]


def taking(times):
    """Calls that draw and take "a" so many times."""
    return (sign([0]) + [TAKE]) * times


class TakeTest(unittest.TestCase):
    def test_answers_as_know(self):
        for row in ([0], [1], [7], [0, 2], [4], [3], [4, 5]):
            found = ask(TAUGHT + sign(row) + [KNOW, TAKE])
            self.assertGreaterEqual(found[-1][0], 0)
            self.assertEqual(found[-1], found[-2])
        self.assertEqual(last(TAUGHT + sign([0]) + [TAKE]), known(0, "a"))
        self.assertEqual(last(TAUGHT + sign([3]) + [TAKE]), known(1, "bc"))

    def test_the_name_is_taken(self):
        self.assertEqual(last(TAUGHT + sign([4]) + [TAKE, TEXT]), written("bc "))
        self.assertEqual(last(TAUGHT + sign([4]) + [TAKE, COUNT]), [4, 0, 1])

    def test_the_drawing_is_gone(self):
        calls = TAUGHT + sign([0]) + [TAKE, ROW, KNOW, TAKE, CLEAR, move(3, 3)]
        self.assertEqual(ask(calls)[-6:], [known(0, "a"), [0], [-61], [-61], [0], [1]])

    def test_the_signs_stay(self):
        calls = TAUGHT + sign([4]) + [TAKE] + sign([4]) + [TAKE, forget("bc"), TEXT]
        self.assertEqual(ask(calls)[-3:], [known(0, "bc"), [1], written("bc bc ")])

    def test_names_taken_stay_when_their_signs_are_forgotten(self):
        calls = TAUGHT + sign([4]) + [TAKE, forget("bc")] + signs(("f", [4])) + sign([4]) + [TAKE, TEXT]
        self.assertEqual(last(calls), written("bc f "))

    def test_one_name_may_be_taken_again(self):
        self.assertEqual(last(TAUGHT + taking(3) + [TEXT]), written("a a a "))


class RefusedTest(unittest.TestCase):
    def check(self, calls, refusal):
        found = ask(calls + LOOKS + [TAKE] + LOOKS)[-9:]
        self.assertEqual(found[4], [refusal])
        self.assertEqual(found[:4], found[5:])

    def test_no_directions(self):
        for points in ([], [(5, 5)], [(5, 5)] * 64):
            self.check(draw(points), -61)
            self.check(TAUGHT + draw(points), -61)
            self.check(TAUGHT + taking(2) + draw(points), -61)

    def test_none_near_enough(self):
        self.check(sign([0]), -33)
        self.check(TAUGHT + sign([6, 0, 6]), -33)
        self.check(TAUGHT + taking(2) + sign([6, 0, 6]), -33)

    def test_limit_of_0(self):
        self.check(signs(("a", [0])) + sign([1]), -33)
        self.assertEqual(last(signs(("a", [0])) + sign([0]) + [TAKE]), known(0, "a"))

    def test_two_names_as_near(self):
        self.check(TAUGHT + sign([2, 6]), -41)
        self.check(TAUGHT + taking(2) + sign([2, 6]), -41)

    def test_names_are_full(self):
        self.check(TAUGHT + taking(100) + sign([0]), -12)
        self.check(TAUGHT + taking(100) + sign([3]), -12)

    def test_not_known_is_told_before_full(self):
        full = TAUGHT + taking(100)
        self.check(full, -61)
        self.check(full + [move(5, 5)], -61)
        self.check(full + sign([6, 0, 6]), -33)
        self.check(full + sign([2, 6]), -41)

    def test_drawing_of_a_refused_take_can_be_gone_on_with(self):
        calls = signs(("l", [2, 0])) + draw([(0, 0), (0, 90)]) + [TAKE, move(60, 90), TAKE, TEXT]
        self.assertEqual(ask(calls)[-4:], [[-33], [3], known(0, "l"), written("l ")])


class HundredNamesTest(unittest.TestCase):
    def test_the_100th_and_the_101st(self):
        found = ask(TAUGHT + taking(99) + sign([4]) + [TAKE, COUNT] + sign([0]) + [TAKE, KNOW, COUNT, TEXT])
        self.assertEqual(found[-8:-6], [known(0, "bc"), [4, 0, 100]])
        self.assertEqual(found[-4:], [[-12], known(0, "a"), [4, 2, 100], written("a " * 99 + "bc ")])

    def test_there_is_room_again_after_back(self):
        calls = TAUGHT + taking(100) + sign([4]) + [TAKE, BACK, TAKE, COUNT, TEXT]
        expected = [[-12], [99], known(0, "bc"), [4, 0, 100], written("a " * 99 + "bc ")]
        self.assertEqual(ask(calls)[-5:], expected)

    def test_there_is_room_again_after_begin(self):
        calls = TAUGHT + taking(100) + TAUGHT + taking(1) + [COUNT]
        self.assertEqual(ask(calls)[-2:], [known(0, "a"), [4, 0, 1]])


if __name__ == "__main__":
    unittest.main()
