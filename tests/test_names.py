"""Point 5: back, text, count."""

import unittest

from tests.line import (
    BACK, CLEAR, COUNT, KNOW, ROW, TAKE, TEXT, ask, begin, draw, forget, last, move, sign, signs, teach, written,
)

TAUGHT = signs(("a", [0]), ("bc", [4]), ("defghijk", [2]))
ROWS = {"a": [0], "bc": [4], "defghijk": [2]}


def taking(*names):
    return [call for name in names for call in sign(ROWS[name]) + [TAKE]]


class BackTest(unittest.TestCase):
    def test_no_name(self):
        self.assertEqual(ask([BACK, BACK]), [[-2], [-2]])
        self.assertEqual(last(TAUGHT + sign([0]) + [BACK]), [-2])

    def test_down_from_several(self):
        calls = TAUGHT + taking("a", "bc", "a") + [BACK, BACK, BACK, BACK]
        self.assertEqual(ask(calls)[-4:], [[2], [1], [0], [-2]])

    def test_down_from_100(self):
        calls = TAUGHT + taking(*["a"] * 100) + [BACK] * 101
        self.assertEqual(ask(calls)[-101:], [[left] for left in range(99, -1, -1)] + [[-2]])

    def test_the_last_one_goes(self):
        calls = TAUGHT + taking("a", "bc", "defghijk") + [BACK, TEXT, BACK, TEXT, BACK, TEXT]
        self.assertEqual(ask(calls)[-5::2], [written("a bc "), written("a "), written("")])

    def test_another_is_taken_in_its_place(self):
        calls = TAUGHT + taking("a", "bc") + [BACK] + taking("defghijk", "a") + [TEXT]
        self.assertEqual(last(calls), written("a defghijk a "))

    def test_drawing_and_signs_stay(self):
        calls = TAUGHT + taking("a") + sign([4]) + [ROW, KNOW, BACK, ROW, KNOW, COUNT]
        found = ask(calls)[-6:]
        self.assertEqual(found[:2], found[3:5])
        self.assertEqual(found[5], [3, 2, 0])

    def test_refused_changes_nothing(self):
        looks = [COUNT, ROW, TEXT, KNOW]
        found = ask(TAUGHT + sign([4]) + looks + [BACK] + looks)[-9:]
        self.assertEqual(found[4], [-2])
        self.assertEqual(found[:4], found[5:])


class TextTest(unittest.TestCase):
    def test_no_name(self):
        self.assertEqual(ask([TEXT]), [[0]])
        self.assertEqual(last(TAUGHT + sign([0]) + [TEXT]), [0])

    def test_one_name(self):
        self.assertEqual(last(TAUGHT + taking("a") + [TEXT]), [2, 97, 32])
        self.assertEqual(last(TAUGHT + taking("bc") + [TEXT]), [3, 98, 99, 32])
        self.assertEqual(last(TAUGHT + taking("defghijk") + [TEXT]), [9] + list(range(100, 108)) + [32])

    def test_several_names_in_order(self):
        self.assertEqual(last(TAUGHT + taking("bc", "a", "bc") + [TEXT]), [8, 98, 99, 32, 97, 32, 98, 99, 32])

    def test_100_of_the_longest_names(self):
        self.assertEqual(last(TAUGHT + taking(*["defghijk"] * 100) + [TEXT]), written("defghijk " * 100))

    def test_asking_changes_nothing(self):
        looks = [COUNT, ROW, TEXT, KNOW]
        found = ask(TAUGHT + taking("a", "bc") + sign([0]) + looks + looks)[-8:]
        self.assertEqual(found[:4], found[4:])

    def test_begin_forgets_the_names_taken(self):
        calls = TAUGHT + taking("a", "bc") + [begin(0), TEXT, COUNT, BACK]
        self.assertEqual(ask(calls)[-4:], [[0], [0], [0, 0, 0], [-2]])

    def test_refused_begin_leaves_the_names_taken(self):
        calls = TAUGHT + taking("a", "bc") + [begin(1001), TEXT, COUNT]
        self.assertEqual(ask(calls)[-3:], [[-22], written("a bc "), [3, 0, 2]])


class CountTest(unittest.TestCase):
    def test_at_first(self):
        self.assertEqual(ask([COUNT]), [[0, 0, 0]])

    def test_signs_then_points_then_names(self):
        calls = TAUGHT + taking("a") + draw([(0, 0), (9, 9)]) + [COUNT]
        self.assertEqual(last(calls), [3, 2, 1])

    def test_after_each_call_that_changes_it(self):
        steps = [
            (move(0, 0), [0, 1, 0]),
            (move(9, 0), [0, 2, 0]),
            (teach("a"), [1, 0, 0]),
            (move(0, 0), [1, 1, 0]),
            (CLEAR, [1, 0, 0]),
            (move(9, 0), [1, 1, 0]),
            (move(0, 0), [1, 2, 0]),
            (teach("b"), [2, 0, 0]),
            (move(0, 0), [2, 1, 0]),
            (move(9, 0), [2, 2, 0]),
            (ROW, [2, 2, 0]),
            (KNOW, [2, 2, 0]),
            (TEXT, [2, 2, 0]),
            (COUNT, [2, 2, 0]),
            (TAKE, [2, 0, 1]),
            (forget("a"), [1, 0, 1]),
            (BACK, [1, 0, 0]),
            (begin(5), [0, 0, 0]),
        ]
        found = ask([call for step, after in steps for call in (step, COUNT)])
        self.assertEqual(found[1::2], [after for step, after in steps])

    def test_all_full(self):
        calls = signs(*[("a", [0])] * 40) + taking(*["a"] * 100) + draw([(0, 0)] * 64) + [COUNT]
        self.assertEqual(last(calls), [40, 64, 100])

    def test_begin_sets_all_to_0(self):
        calls = TAUGHT + taking("a") + draw([(0, 0), (9, 9)]) + [begin(0), COUNT]
        self.assertEqual(last(calls), [0, 0, 0])


if __name__ == "__main__":
    unittest.main()
