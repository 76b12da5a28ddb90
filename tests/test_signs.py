"""Point 3: teach, forget."""

import unittest

from handsigns.pad import Pad
from tests.line import CLEAR, ROW, ask, begin, draw, forget, move, taught, teach

STROKE = draw([(0, 0), (9, 0)])
NO_NAMES = ([], [96], [123], [0], [255], [32], [65], [90], [97] * 9, [97] * 60, [96, 97], [97, 123], [97, 98, 96],
            [97] * 7 + [123])


class TeachTest(unittest.TestCase):
    def test_answers_how_many_signs(self):
        self.assertEqual(ask(taught(["a", "b", "a"]))[2::3], [[1], [2], [3]])

    def test_names(self):
        for name in ("a", "z", "az", "abcdefgh", "zzzzzzzz"):
            self.assertEqual(ask(STROKE + [teach(name)])[-1], [1])

    def test_what_is_no_name_is_refused(self):
        for name in NO_NAMES:
            self.assertEqual(ask(STROKE + [teach(name)])[-1], [-22])

    def test_drawing_without_directions_is_refused(self):
        self.assertEqual(ask([teach("a")]), [[-61]])
        self.assertEqual(ask([move(3, 3), teach("a")])[-1], [-61])
        self.assertEqual(ask(draw([(3, 3)] * 64) + [teach("a")])[-1], [-61])

    def test_the_40th_and_the_41st_sign(self):
        found = ask(taught(["a", "b"] * 20) + STROKE + [teach("c"), forget("c")])
        self.assertEqual(found[2:120:3], [[count] for count in range(1, 41)])
        self.assertEqual(found[-2:], [[-12], [-2]])

    def test_there_is_room_again_once_one_is_forgotten(self):
        calls = taught(["b"] + ["a"] * 39) + STROKE + [teach("c"), forget("b"), teach("c"), forget("c")]
        self.assertEqual(ask(calls)[-4:], [[-12], [1], [40], [1]])

    def test_no_name_is_told_before_no_directions(self):
        for name in NO_NAMES:
            self.assertEqual(ask([teach(name)]), [[-22]])
            self.assertEqual(ask([move(0, 0), teach(name)])[-1], [-22])

    def test_no_name_is_told_before_full(self):
        full = taught(["a"] * 40)
        self.assertEqual(ask(full + STROKE + [teach("A")])[-1], [-22])
        self.assertEqual(ask(full + [teach([])])[-1], [-22])

    def test_no_directions_is_told_before_full(self):
        full = taught(["a"] * 40)
        self.assertEqual(ask(full + [teach("a")])[-1], [-61])
        self.assertEqual(ask(full + [move(1, 1), teach("a")])[-1], [-61])

    def test_taught_drawing_is_gone(self):
        calls = STROKE + [teach("a"), ROW, teach("b"), CLEAR, move(0, 0)]
        self.assertEqual(ask(calls)[2:], [[1], [0], [-61], [0], [1]])

    def test_refused_teach_leaves_the_drawing_and_the_signs(self):
        kept = [[1, 0], [2], [-2]]
        self.assertEqual(ask(STROKE + [teach("a-"), ROW, CLEAR, forget("a-")])[-3:], kept)
        self.assertEqual(ask([move(4, 4), teach("a"), ROW, CLEAR, forget("a")])[-3:], [[0], [1], [-2]])
        full = taught(["a"] * 40)
        self.assertEqual(ask(full + STROKE + [teach("b"), ROW, CLEAR, forget("b")])[-3:], kept)
        self.assertEqual(ask(full + STROKE + [teach("b"), forget("a")])[-1], [40])

    def test_sign_has_the_name_and_the_row_of_what_was_drawn(self):
        pad = Pad()
        for x, y in ((0, 0), (0, 100), (3, 100), (800, 100)):
            pad.move(x, y)
        pad.teach([97, 98])
        pad.move(9, 0)
        pad.move(0, 0)
        pad.teach([99])
        found = [(sign.name, sign.directions) for sign in pad.signs]
        self.assertEqual(found, [([97, 98], [2, 0]), ([99], [4])])


class ForgetTest(unittest.TestCase):
    def test_no_sign_has_the_name(self):
        self.assertEqual(ask([forget("a")]), [[-2]])
        self.assertEqual(ask(taught(["ab"]) + [forget("a"), forget("b"), forget("abc"), forget("ba")])[-4:], [[-2]] * 4)

    def test_what_is_no_name_no_sign_has(self):
        for name in NO_NAMES:
            self.assertEqual(ask([forget(name)]), [[-2]])
            self.assertEqual(ask(taught(["a", "aaaaaaaa"]) + [forget(name)])[-1], [-2])

    def test_name_taught_once(self):
        self.assertEqual(ask(taught(["a"]) + [forget("a"), forget("a")])[-2:], [[1], [-2]])

    def test_name_taught_twice_goes_whole(self):
        calls = taught(["a", "b", "a"]) + [forget("a"), forget("a"), forget("b")]
        self.assertEqual(ask(calls)[-3:], [[2], [-2], [1]])

    def test_all_40_go(self):
        self.assertEqual(ask(taught(["word"] * 40) + [forget("word")] + taught(["a"]))[-4:], [[40], [1], [2], [1]])

    def test_the_others_stay_in_their_order(self):
        pad = Pad()
        for name, side in ((97, 0), (98, 9), (97, 9), (99, 5)):
            pad.move(side, 0)
            pad.move(5, 9)
            pad.teach([name])
        self.assertEqual(pad.forget([97]), 2)
        self.assertEqual([(sign.name, sign.directions) for sign in pad.signs], [([98], [2]), ([99], [2])])

    def test_drawing_stays(self):
        calls = taught(["a"]) + STROKE + [forget("a"), ROW, forget("a"), ROW, CLEAR]
        self.assertEqual(ask(calls)[-5:], [[1], [1, 0], [-2], [1, 0], [2]])

    def test_refused_forget_leaves_the_signs(self):
        calls = taught(["a", "a"]) + [forget("b"), forget([]), forget("a")]
        self.assertEqual(ask(calls)[-3:], [[-2], [-2], [2]])

    def test_signs_of_before_begin_are_not_found(self):
        self.assertEqual(ask(taught(["a"]) + [begin(0), forget("a")])[-1], [-2])


if __name__ == "__main__":
    unittest.main()
