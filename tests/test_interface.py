"""The interface: how calls are handed in and how answers are given back."""

import unittest

from handsigns.pad import UnknownCall, answers
from tests.line import (
    BACK, CLEAR, COUNT, KNOW, ROW, TAKE, TEXT, ask, begin, draw, flat, forget, known, last, move, sign, signs, taught,
    teach, written,
)

LINE = [
    0, 5,
    1, 0, 0,
    1, 0, 9,
    1, 9, 9,
    3,
    4, 2, 97, 98,
    4, 0,
    1, 4294967295, 0,
    1, 5, 0,
    1, 5, 8,
    6,
    10,
    7,
    6,
    9,
    10,
    8,
    8,
    9,
    2,
    5, 2, 97, 98,
    5, 1, 0,
]
ANSWERS = [
    1, 0,
    1, 1,
    1, 2,
    1, 3,
    3, 2, 2, 0,
    1, 1,
    1, -22,
    1, -22,
    1, 1,
    1, 2,
    3, 2, 97, 98,
    3, 1, 2, 0,
    3, 2, 97, 98,
    1, -61,
    4, 3, 97, 98, 32,
    3, 1, 0, 1,
    1, 0,
    1, -2,
    1, 0,
    1, 0,
    1, 1,
    1, -2,
]


class InterfaceTest(unittest.TestCase):
    def test_calls_of_all_eleven_kinds(self):
        self.assertEqual(answers(LINE), ANSWERS)

    def test_kinds(self):
        found = answers(LINE)
        self.assertIs(type(found), list)
        self.assertEqual({type(number) for number in found}, {int})

    def test_any_call_may_be_first_and_alone(self):
        found = [answers(call) for call in ([0, 0], [1, 0, 0], [2], [3], [4, 1, 97], [4, 0], [5, 1, 97], [5, 0])]
        self.assertEqual(found, [[1, 0], [1, 1], [1, 0], [1, 0], [1, -61], [1, -22], [1, -2], [1, -2]])
        found = [answers(call) for call in ([6], [7], [8], [9], [10])]
        self.assertEqual(found, [[1, -61], [1, -61], [1, -2], [1, 0], [3, 0, 0, 0]])

    def test_numbers_that_look_like_calls_are_read_as_what_they_are(self):
        calls = [begin(3), move(3, 3), move(2, 2), teach([3, 4, 5]), forget([2, 2]), teach([4] * 60), ROW, CLEAR]
        self.assertEqual(ask(calls), [[0], [1], [2], [-22], [-2], [-22], [1, 5], [2]])
        calls = [begin(10), move(9, 9), move(7, 8), teach([6, 7, 8, 9, 10]), forget([10] * 60), COUNT]
        self.assertEqual(ask(calls), [[0], [1], [2], [-22], [-2], [0, 2, 0]])

    def test_list_handed_in_stays_as_it_was(self):
        line = list(LINE)
        answers(line)
        self.assertEqual(line, LINE)

    def test_list_handed_in_is_not_given_back(self):
        line = list(LINE)
        found = answers(line)
        found.clear()
        self.assertEqual(line, LINE)
        self.assertEqual(answers(line), ANSWERS)

    def test_two_times_do_not_know_of_each_other(self):
        self.assertEqual(answers(flat(taught(["a"]) + draw([(0, 0), (9, 0)])))[-2:], [1, 2])
        self.assertEqual(ask([ROW, CLEAR, forget("a")]), [[0], [0], [-2]])
        self.assertEqual(last([begin(1000)] + signs(("a", [0])) + sign([0]) + [TAKE]), known(0, "a"))
        self.assertEqual(ask([COUNT, TEXT, BACK] + sign([0]) + [KNOW])[::5], [[0, 0, 0], [-33]])
        self.assertEqual(last(signs(("a", [0])) + sign([1]) + [KNOW]), [-33])
        self.assertEqual(answers(LINE), answers(LINE))

    def test_number_that_no_call_has(self):
        with self.assertRaises(UnknownCall):
            answers([2, 11])

    def test_answers_do_not_hang_together_with_what_is_kept(self):
        calls = signs(("ab", [0])) + sign([0]) + [KNOW, TAKE, TEXT, TEXT]
        self.assertEqual(ask(calls)[-4:], [[0, 97, 98], [0, 97, 98], [3, 97, 98, 32], [3, 97, 98, 32]])


class LongLineTest(unittest.TestCase):
    def test_5000_rows(self):
        calls = draw([(0, 0), (1023, 0)] * 32) + [ROW] * 4936
        found = ask(calls)
        self.assertEqual(found[63], [64])
        self.assertEqual(found[64:], [[63] + [0, 4] * 31 + [0]] * 4936)

    def test_5000_calls_with_40_of_the_longest_signs(self):
        calls = [begin(1000)] + signs(*[("a", [0, 4] * 31 + [0])] * 40) + sign([2, 6] * 31 + [2])
        calls += [KNOW] * (4999 - len(calls)) + [TAKE]
        self.assertEqual(len(calls), 5000)
        self.assertEqual(ask(calls)[2665:], [known(126, "a")] * 2335)

    def test_5000_calls_that_ask_behind_each_point(self):
        growing = [call for point in sign([0, 2, 4, 6] * 15 + [0, 2, 4]) for call in (point, KNOW)] + [CLEAR]
        calls = [begin(1000)] + signs(*[("a", [0, 4] * 31 + [0])] * 40) + growing * 18
        calls += [COUNT] * (5000 - len(calls))
        found = ask(calls)[2601:2601 + 129 * 18]
        self.assertEqual(found[1], [-61])
        self.assertEqual(found[3], known(124, "a"))
        self.assertEqual(found, found[:129] * 18)

    def test_5000_calls_that_write(self):
        calls = signs(("abcdefgh", [0])) + (sign([0]) + [TAKE]) * 100
        calls += [TEXT] * 1000
        calls += [COUNT] * (5000 - len(calls))
        found = ask(calls)
        self.assertEqual(found[303:1303], [written("abcdefgh " * 100)] * 1000)
        self.assertEqual(found[1303:], [[1, 0, 100]] * 3697)


if __name__ == "__main__":
    unittest.main()
