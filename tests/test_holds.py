"""b, c and d of what holds; a over lines of many calls, beside a plain account of the pad."""

import functools
import unittest

from tests.line import (
    BACK, CLEAR, COUNT, HIGHEST_NUMBER, KNOW, ROW, STEPS, TAKE, TEXT, ask, begin, draw, forget, known, last,
    move, points_of, row_of, sign, signs, teach,
)

SHAPES = (
    points_of([0]),
    points_of([2, 0]),
    points_of([0, 2, 4, 6]),
    points_of([0, 1, 2, 3, 4, 5, 6, 7], 80),
    points_of([0, 4] * 31 + [0]),
    [(0, 0), (0, 100), (3, 101), (800, 101), (750, 51), (750, 1)],
    [(300, 0), (10, 7), (15, 300), (150, 310), (160, 500), (0, 505), (0, 505)],
    [(5, 5), (6, 5)],
    [(0, 0), (1, 2), (5, 3), (4, 0)],
)


def elsewhere(points):
    """The same points at each edge of the pad, and between."""
    room_right = 1023 - max(x for x, y in points)
    room_down = 1023 - max(y for x, y in points)
    for right in (0, 1, room_right // 2, room_right):
        for down in (0, 1, room_down // 2, room_down):
            yield [(x + right, y + down) for x, y in points]


class AsTaughtTest(unittest.TestCase):
    def test_drawn_as_taught_it_is_known(self):
        for limit in (0, 3, 1000):
            for shape in SHAPES:
                calls = [begin(limit)] + draw(shape) + [teach("a")] + draw(shape) + [KNOW, TAKE]
                self.assertEqual(ask(calls)[-2:], [known(0, "a"), known(0, "a")])

    def test_each_of_several_signs(self):
        names = "abcdefghi"
        rows = [row_of(shape) for shape in SHAPES]
        different = [place for place, row in enumerate(rows) if row not in rows[:place]]
        self.assertGreater(len(different), 6)
        calls = [begin(1000)]
        for place in different:
            calls += draw(SHAPES[place]) + [teach(names[place])]
        for place in different:
            self.assertEqual(last(calls + draw(SHAPES[place]) + [KNOW]), known(0, names[place]))

    def test_but_if_one_of_another_name_looks_the_same(self):
        for shape in SHAPES:
            calls = draw(shape) + [teach("a")] + draw(shape) + [teach("b")] + draw(shape) + [KNOW]
            self.assertEqual(last(calls), [-41])

    def test_one_name_taught_twice_alike(self):
        for shape in SHAPES:
            calls = draw(shape) + [teach("a")] + draw(shape) + [teach("a")] + draw(shape) + [KNOW]
            self.assertEqual(last(calls), known(0, "a"))


class ElsewhereTest(unittest.TestCase):
    def test_it_is_known_as_before(self):
        taught = [begin(5)] + signs(("a", [0]), ("b", [2, 0]), ("c", [0, 2, 4]), ("d", [2, 0, 6]), ("e", [4, 2]))
        answers = set()
        for shape in SHAPES:
            before = last(taught + draw(shape) + [KNOW])
            answers.add(tuple(before))
            for moved in elsewhere(shape):
                self.assertEqual(last(taught + draw(moved) + [KNOW]), before)
        self.assertGreater(len(answers), 4)

    def test_taught_elsewhere(self):
        for shape in SHAPES:
            for moved in elsewhere(shape):
                self.assertEqual(last(draw(moved) + [teach("a")] + draw(shape) + [KNOW]), known(0, "a"))


class RefusedTest(unittest.TestCase):
    def check(self, calls, refused, refusal):
        looks = [COUNT, ROW, TEXT, KNOW]
        found = ask(calls + looks + [refused] + looks)[-9:]
        self.assertEqual(found[4], [refusal])
        self.assertEqual(found[:4], found[5:])

    def setUp(self):
        taught = [begin(2)] + signs(("a", [0]), ("b", [4]), ("c", [4]))
        self.written = taught + sign([0]) + [TAKE] + sign([1]) + [TAKE]
        self.drawn = self.written + sign([1])

    def test_begin(self):
        self.check(self.drawn, begin(1001), -22)
        self.check(self.drawn, begin(HIGHEST_NUMBER), -22)

    def test_move(self):
        for x, y in ((1024, 0), (0, 1024), (HIGHEST_NUMBER, HIGHEST_NUMBER)):
            self.check(self.drawn, move(x, y), -22)
        self.check(self.written + draw([(0, 0), (9, 0)] * 32), move(9, 9), -12)

    def test_teach(self):
        for name in ("", "A", "abcdefghi", "a b", [0], [255] * 60):
            self.check(self.drawn, teach(name), -22)
        self.check(self.written, teach("a"), -61)
        self.check(self.written + [move(5, 5)], teach("a"), -61)
        self.check(self.drawn + [CLEAR] + signs(*[("d", [6])] * 37) + sign([1]), teach("a"), -12)

    def test_forget(self):
        for name in ("", "d", "aa", "A", [0] * 60):
            self.check(self.drawn, forget(name), -2)

    def test_know_and_take(self):
        for call in (KNOW, TAKE):
            self.check(self.written, call, -61)
            self.check(self.written + [move(5, 5)], call, -61)
            self.check(self.written + sign([0, 2, 4, 6]), call, -33)
            self.check(self.written + sign([4]), call, -41)

    def test_take_where_names_are_full(self):
        self.check(self.written + (sign([0]) + [TAKE]) * 98 + sign([1]), TAKE, -12)

    def test_back(self):
        self.check(self.written + [BACK, BACK] + sign([1]), BACK, -2)


def plain_distance(one, other):
    @functools.lru_cache(None)
    def rest(left, right):
        if left == len(one):
            return 2 * (len(other) - right)
        if right == len(other):
            return 2 * (len(one) - left)
        turn = (one[left] - other[right]) % 8
        return min(rest(left + 1, right) + 2, rest(left, right + 1) + 2,
                   rest(left + 1, right + 1) + min(turn, 8 - turn))
    return rest(0, 0)


class Account:
    """What the pad is to answer, told as plainly as it can be; the points lie on a net of 9 by 9."""

    def __init__(self):
        self.begin(0)

    def begin(self, limit):
        self.limit, self.signs, self.taken = limit, [], []
        self.clear()
        return [0]

    def clear(self):
        self.points, self.place, self.row = 0, (4, 4), ()

    def step(self, direction):
        """The call that goes on by one step of the net, or stays where the net ends, and its answer."""
        x, y = (self.place[0] + STEPS[direction][0], self.place[1] + STEPS[direction][1])
        if self.points == 0 or not (0 <= x <= 8 and 0 <= y <= 8):
            x, y = self.place
        call = move(x * 100, y * 100)
        if self.points == 64:
            return call, [-12]
        if (x, y) != self.place and self.row[-1:] != (direction,):
            self.row += (direction,)
        self.place = (x, y)
        self.points += 1
        return call, [self.points]

    def teach(self, name):
        if not self.row:
            return [-61]
        if len(self.signs) == 40:
            return [-12]
        self.signs.append((name, self.row))
        self.clear()
        return [len(self.signs)]

    def forget(self, name):
        before = len(self.signs)
        self.signs = [sign for sign in self.signs if sign[0] != name]
        return [before - len(self.signs)] if len(self.signs) < before else [-2]

    def know(self):
        if not self.row:
            return [-61]
        near = sorted((plain_distance(self.row, row), name) for name, row in self.signs)
        near = [(distance, name) for distance, name in near if distance <= self.limit]
        if not near:
            return [-33]
        if len({name for distance, name in near if distance == near[0][0]}) > 1:
            return [-41]
        return known(*near[0])

    def take(self):
        answer = self.know()
        if answer[0] >= 0 and len(self.taken) == 100:
            return [-12]
        if answer[0] >= 0:
            self.taken.append(answer[1:] + [32])
            self.clear()
        return answer

    def back(self):
        if not self.taken:
            return [-2]
        self.taken.pop()
        return [len(self.taken)]

    def text(self):
        return [len(sum(self.taken, []))] + sum(self.taken, [])


def scattered(start):
    """Numbers without order, the same each time."""
    number = start
    while True:
        number = (number * 1103515245 + 12345) % 2147483648
        yield number // 65536


def line_of(start, length):
    """A line of so many calls, and what each is to answer."""
    numbers = scattered(start)
    account = Account()
    limit = start % 7
    line = [(begin(limit), account.begin(limit))]
    while len(line) < length:
        choice = next(numbers) % 100
        name = ("a", "b", "ab", "abcdefgh")[next(numbers) % 4]
        if choice < 45:
            line.append(account.step(next(numbers) % 8))
        elif choice < 60:
            line.append((TAKE, account.take()))
        elif choice < 75:
            line.append((KNOW, account.know()))
        elif choice < 83:
            line.append((teach(name), account.teach(name)))
        elif choice < 85:
            line.append((BACK, account.back()))
        elif choice < 88:
            line.append((TEXT, account.text()))
        elif choice < 92:
            line.append((COUNT, [len(account.signs), account.points, len(account.taken)]))
        elif choice < 96:
            line.append((ROW, [len(account.row)] + list(account.row)))
        elif choice < 97:
            line.append((CLEAR, [account.points]))
            account.clear()
        elif choice < 98:
            line.append((forget(name), account.forget(name)))
        elif next(numbers) % 20 == 0:
            limit = next(numbers) % 9
            line.append((begin(limit), account.begin(limit)))
    return line


class AccountTest(unittest.TestCase):
    def test_lines_of_many_calls(self):
        kinds = set()
        for start in range(1, 15):
            line = line_of(start, 1000)
            found = ask([call for call, answer in line])
            for place, (call, answer) in enumerate(line):
                self.assertEqual(found[place], answer, f"line {start}, call {place}: {call}")
                kinds.add((call[0], min(answer[0], 0)))
        for number in (KNOW[0], TAKE[0]):
            for answer in (0, -61, -33, -41):
                self.assertIn((number, answer), kinds)


if __name__ == "__main__":
    unittest.main()
