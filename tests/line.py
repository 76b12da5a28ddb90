"""Lines of calls, written as the interface asks for them, and their answers taken apart."""

from handsigns.pad import answers

CLEAR = [2]
ROW = [3]
KNOW = [6]
TAKE = [7]
BACK = [8]
TEXT = [9]
COUNT = [10]
HIGHEST_NUMBER = 4294967295


def begin(limit):
    return [0, limit]


def move(x, y):
    return [1, x, y]


def draw(points):
    return [move(x, y) for x, y in points]


def named(number, name):
    letters = bytes_of(name) if isinstance(name, str) else list(name)
    return [number, len(letters)] + letters


def teach(name):
    return named(4, name)


def forget(name):
    return named(5, name)


def flat(calls):
    return [number for call in calls for number in call]


def apart(numbers):
    found = []
    place = 0
    while place < len(numbers):
        length = numbers[place]
        answer = numbers[place + 1:place + 1 + length]
        if len(answer) != length or length < 1:
            raise AssertionError(f"answers are not counted right: {numbers}")
        found.append(answer)
        place += 1 + length
    return found


def ask(calls):
    """The answers of these calls, a list for each."""
    found = apart(answers(flat(calls)))
    if len(found) != len(calls):
        raise AssertionError(f"{len(calls)} calls, but {len(found)} answers")
    return found


def bytes_of(text):
    return list(text.encode("ascii"))


def last(calls):
    """The answer of the last of these calls."""
    return ask(calls)[-1]


def row_of(points):
    """The directions answered for a drawing of these points."""
    answer = ask(draw(points) + [ROW])[-1]
    if answer[0] != len(answer) - 1:
        raise AssertionError(f"directions are not counted right: {answer}")
    return answer[1:]


def taught(names):
    """Calls that teach a stroke to the right under each of these names."""
    return [call for name in names for call in draw([(0, 0), (9, 0)]) + [teach(name)]]


STEPS = ((1, 0), (1, 1), (0, 1), (-1, 1), (-1, 0), (-1, -1), (0, -1), (1, -1))


def points_of(row, step=100):
    """Points whose row is this one, a step from one to the next, as far up and to the left as they go."""
    path = [(0, 0)]
    for direction in row:
        right, down = STEPS[direction]
        path.append((path[-1][0] + right, path[-1][1] + down))
    left = min(x for x, y in path)
    top = min(y for x, y in path)
    if max(max(x - left, y - top) for x, y in path) > 8:
        raise AssertionError(f"a step is less than an eighth of the size: {row}")
    return [((x - left) * step, (y - top) * step) for x, y in path]


def sign(row):
    """Calls that draw points whose row is this one."""
    return draw(points_of(row))


def signs(*named_rows):
    """Calls that teach each of these rows under its name."""
    return [call for name, row in named_rows for call in sign(row) + [teach(name)]]


def known(distance, name):
    """What know and take answer where what's drawn is known."""
    return [distance] + bytes_of(name)


def written(text):
    """What text answers where this is the text."""
    return [len(text)] + bytes_of(text)
