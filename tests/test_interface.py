"""The interface: how calls are handed in and how answers are given back."""

import unittest

from handsigns.pad import UnknownCall, answers
from tests.line import CLEAR, ROW, ask, begin, draw, flat, forget, move, taught, teach

LINE = [
    0, 5,
    1, 0, 0,
    1, 0, 9,
    1, 9, 9,
    3,
    4, 2, 97, 98,
    4, 0,
    1, 4294967295, 0,
    2,
    5, 2, 97, 98,
    5, 1, 0,
]
ANSWERS = [
    1, 0,
    1, 1,
    1, 2,
    1, 3,
    3, 2, 2, 0,
    1, 1,
    1, -22,
    1, -22,
    1, 0,
    1, 1,
    1, -2,
]


class InterfaceTest(unittest.TestCase):
    def test_answers_of_several_calls(self):
        self.assertEqual(answers(LINE), ANSWERS)

    def test_kinds(self):
        found = answers(LINE)
        self.assertIs(type(found), list)
        self.assertEqual({type(number) for number in found}, {int})

    def test_any_call_may_be_first_and_alone(self):
        found = [answers(call) for call in ([0, 0], [1, 0, 0], [2], [3], [4, 1, 97], [4, 0], [5, 1, 97], [5, 0])]
        self.assertEqual(found, [[1, 0], [1, 1], [1, 0], [1, 0], [1, -61], [1, -22], [1, -2], [1, -2]])

    def test_numbers_that_look_like_calls_are_read_as_what_they_are(self):
        calls = [begin(3), move(3, 3), move(2, 2), teach([3, 4, 5]), forget([2, 2]), teach([4] * 60), ROW, CLEAR]
        self.assertEqual(ask(calls), [[0], [1], [2], [-22], [-2], [-22], [1, 5], [2]])

    def test_list_handed_in_stays_as_it_was(self):
        line = list(LINE)
        answers(line)
        self.assertEqual(line, LINE)

    def test_list_handed_in_is_not_given_back(self):
        line = list(LINE)
        found = answers(line)
        found.clear()
        self.assertEqual(line, LINE)
        self.assertEqual(answers(line), ANSWERS)

    def test_two_times_do_not_know_of_each_other(self):
        self.assertEqual(answers(flat(taught(["a"]) + draw([(0, 0), (9, 0)])))[-2:], [1, 2])
        self.assertEqual(ask([ROW, CLEAR, forget("a")]), [[0], [0], [-2]])
        self.assertEqual(answers(LINE), answers(LINE))

    def test_number_that_no_call_has(self):
        with self.assertRaises(UnknownCall):
            answers([2, 11])

    def test_5000_calls(self):
        calls = draw([(0, 0), (1023, 0)] * 32) + [ROW] * 4936
        found = ask(calls)
        self.assertEqual(found[63], [64])
        self.assertEqual(found[64:], [[63] + [0, 4] * 31 + [0]] * 4936)


if __name__ == "__main__":
    unittest.main()
