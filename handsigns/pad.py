"""The pad: what is drawn on it, the signs it was taught, and the calls on it."""

from handsigns.distance import Measure

BEGIN = 0
MOVE = 1
CLEAR = 2
ROW = 3
TEACH = 4
FORGET = 5
KNOW = 6
TAKE = 7
BACK = 8
TEXT = 9
COUNT = 10

NOT_THERE = -2
FULL = -12
OUT_OF_RANGE = -22
NONE_NEAR = -33
NOT_ONE_NAME = -41
NO_DIRECTIONS = -61

HIGHEST_LIMIT = 1000
HIGHEST_PLACE = 1023
MOST_POINTS = 64
MOST_SIGNS = 40
MOST_TAKEN = 100
LONGEST_NAME = 8
LETTER_A = 97
LETTER_Z = 122
BLANK = 32

# A point nearer to the last kept one than this part of the size is a tremble of the hand.
PARTS_OF_SIZE = 8

RIGHT = 0
RIGHT_DOWN = 1
DOWN = 2
LEFT_DOWN = 3
LEFT = 4
LEFT_UP = 5
UP = 6
RIGHT_UP = 7


def reach_between(start, end):
    return max(abs(end[0] - start[0]), abs(end[1] - start[1]))


def size_of(points):
    across = [point[0] for point in points]
    along = [point[1] for point in points]
    return max(max(across) - min(across), max(along) - min(along))


def kept_points(points):
    if len(points) == 0:
        return []
    size = size_of(points)
    kept = [points[0]]
    for point in points:
        reach = reach_between(kept[-1], point)
        # Where all points are in one place the size is 0, and the second test alone would keep them.
        if reach > 0 and reach * PARTS_OF_SIZE >= size:
            kept.append(point)
    return kept


def direction_between(start, end):
    right = end[0] - start[0]
    down = end[1] - start[1]
    if abs(right) >= 2 * abs(down):
        return RIGHT if right > 0 else LEFT
    if abs(down) >= 2 * abs(right):
        return DOWN if down > 0 else UP
    if right > 0:
        return RIGHT_DOWN if down > 0 else RIGHT_UP
    return LEFT_DOWN if down > 0 else LEFT_UP


def row_of(points):
    kept = kept_points(points)
    directions = []
    for start, end in zip(kept, kept[1:]):
        direction = direction_between(start, end)
        if len(directions) == 0 or directions[-1] != direction:
            directions.append(direction)
    return directions


def is_name(name):
    if len(name) < 1 or len(name) > LONGEST_NAME:
        return False
    return all([LETTER_A <= byte <= LETTER_Z for byte in name])


class Sign:
    def __init__(self, name, directions):
        self.name = name
        self.directions = directions
        self.measure = Measure(directions)


class Pad:
    def __init__(self):
        self.limit = 0
        self.signs = []
        self.points = []
        self.taken = []

    def begin(self, limit):
        if limit > HIGHEST_LIMIT:
            return OUT_OF_RANGE
        self.limit = limit
        self.signs = []
        self.points = []
        self.taken = []
        return 0

    def move(self, x, y):
        if x > HIGHEST_PLACE or y > HIGHEST_PLACE:
            return OUT_OF_RANGE
        if len(self.points) >= MOST_POINTS:
            return FULL
        self.points.append((x, y))
        return len(self.points)

    def clear(self):
        drawn = len(self.points)
        self.points = []
        return drawn

    def row(self):
        return row_of(self.points)

    def teach(self, name):
        if not is_name(name):
            return OUT_OF_RANGE
        directions = row_of(self.points)
        if len(directions) == 0:
            return NO_DIRECTIONS
        if len(self.signs) >= MOST_SIGNS:
            return FULL
        self.signs.append(Sign(name, directions))
        self.points = []
        return len(self.signs)

    def forget(self, name):
        left = [sign for sign in self.signs if sign.name != name]
        gone = len(self.signs) - len(left)
        if gone == 0:
            return NOT_THERE
        self.signs = left
        return gone

    def know(self):
        directions = row_of(self.points)
        if len(directions) == 0:
            return [NO_DIRECTIONS]
        distances = [sign.measure.distance_from(directions) for sign in self.signs]
        least = min(distances, default=self.limit + 1)
        if least > self.limit:
            return [NONE_NEAR]
        names = [sign.name for sign, distance in zip(self.signs, distances) if distance == least]
        if any([name != names[0] for name in names]):
            return [NOT_ONE_NAME]
        return [least] + names[0]

    def take(self):
        answer = self.know()
        if answer[0] < 0:
            return answer
        if len(self.taken) >= MOST_TAKEN:
            return [FULL]
        self.taken.append(answer[1:])
        self.points = []
        return answer

    def back(self):
        if len(self.taken) == 0:
            return NOT_THERE
        self.taken.pop()
        return len(self.taken)

    def text(self):
        written = []
        for name in self.taken:
            written.extend(name)
            written.append(BLANK)
        return written

    def count(self):
        return [len(self.signs), len(self.points), len(self.taken)]


# A place in the list moves on instead of the list getting shorter: what is handed in stays as it is.
class Reader:
    def __init__(self, numbers):
        self.numbers = numbers
        self.place = 0

    def at_end(self):
        return self.place >= len(self.numbers)

    def read_number(self):
        number = self.numbers[self.place]
        self.place = self.place + 1
        return number

    def read_name(self):
        length = self.read_number()
        start = self.place
        self.place = start + length
        return self.numbers[start:start + length]


class UnknownCall(ValueError):
    pass


def counted(numbers):
    return [len(numbers)] + numbers


def answer_of(pad, reader):
    call = reader.read_number()
    if call == BEGIN:
        return [pad.begin(reader.read_number())]
    if call == MOVE:
        x = reader.read_number()
        y = reader.read_number()
        return [pad.move(x, y)]
    if call == CLEAR:
        return [pad.clear()]
    if call == ROW:
        return counted(pad.row())
    if call == TEACH:
        return [pad.teach(reader.read_name())]
    if call == FORGET:
        return [pad.forget(reader.read_name())]
    if call == KNOW:
        return pad.know()
    if call == TAKE:
        return pad.take()
    if call == BACK:
        return [pad.back()]
    if call == TEXT:
        return counted(pad.text())
    if call == COUNT:
        return pad.count()
    raise UnknownCall(f"no call has the number {call}")


def answers(calls):
    pad = Pad()
    reader = Reader(calls)
    answered = []
    while not reader.at_end():
        answer = answer_of(pad, reader)
        answered.append(len(answer))
        answered.extend(answer)
    return answered
