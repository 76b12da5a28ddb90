"""Point 1: begin."""

import unittest

from handsigns.pad import Pad
from tests.line import CLEAR, HIGHEST_NUMBER, ROW, ask, begin, draw, forget, move, taught, teach


def used_pad():
    pad = Pad()
    pad.begin(7)
    pad.move(0, 0)
    pad.move(9, 0)
    pad.teach([97])
    pad.move(5, 5)
    pad.taken = [[97]]
    return pad


class BeginTest(unittest.TestCase):
    def test_limits_up_to_1000_are_taken(self):
        for limit in (0, 1, 999, 1000):
            self.assertEqual(ask([begin(limit)]), [[0]])

    def test_limits_above_1000_are_refused(self):
        for limit in (1001, 1002, HIGHEST_NUMBER):
            self.assertEqual(ask([begin(limit)]), [[-22]])

    def test_signs_and_points_are_gone(self):
        calls = taught(["a", "b"]) + draw([(0, 0), (0, 9)]) + [begin(3), ROW, CLEAR, forget("a"), forget("b")]
        self.assertEqual(ask(calls)[-5:], [[0], [0], [0], [-2], [-2]])

    def test_signs_and_points_are_counted_anew(self):
        calls = taught(["a", "b"]) + draw([(0, 0), (0, 9)]) + [begin(0)] + draw([(0, 0), (0, 9)]) + [teach("c")]
        self.assertEqual(ask(calls)[-4:], [[0], [1], [2], [1]])

    def test_full_pad_is_empty_again(self):
        calls = taught(["a"] * 40) + draw([(0, 0)] * 64) + [begin(1), move(0, 0)]
        self.assertEqual(ask(calls)[-2:], [[0], [1]])
        calls = taught(["a"] * 40) + [begin(1)] + taught(["a"])
        self.assertEqual(ask(calls)[-1], [1])

    def test_refused_leaves_signs_and_points(self):
        calls = taught(["a", "a"]) + draw([(0, 0), (0, 9)]) + [begin(1001), ROW, CLEAR, forget("a")]
        self.assertEqual(ask(calls)[-4:], [[-22], [1, 2], [2], [2]])

    def test_a_new_pad(self):
        pad = Pad()
        self.assertEqual((pad.limit, pad.signs, pad.points, pad.taken), (0, [], [], []))

    def test_all_that_is_kept_begins_anew(self):
        pad = used_pad()
        self.assertEqual(pad.begin(1000), 0)
        self.assertEqual((pad.limit, pad.signs, pad.points, pad.taken), (1000, [], [], []))
        self.assertEqual(pad.begin(0), 0)
        self.assertEqual(pad.limit, 0)

    def test_refused_leaves_all_that_is_kept(self):
        pad = used_pad()
        self.assertEqual(pad.begin(1001), -22)
        self.assertEqual((pad.limit, pad.points, pad.taken), (7, [(5, 5)], [[97]]))
        self.assertEqual([(sign.name, sign.directions) for sign in pad.signs], [([97], [0])])


if __name__ == "__main__":
    unittest.main()
