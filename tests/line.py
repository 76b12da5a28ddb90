"""Lines of calls, written as the interface asks for them, and their answers taken apart."""

from handsigns.pad import answers

CLEAR = [2]
ROW = [3]
HIGHEST_NUMBER = 4294967295


def begin(limit):
    return [0, limit]


def move(x, y):
    return [1, x, y]


def draw(points):
    return [move(x, y) for x, y in points]


def named(number, name):
    letters = list(name.encode("ascii")) if isinstance(name, str) else list(name)
    return [number, len(letters)] + letters


def teach(name):
    return named(4, name)


def forget(name):
    return named(5, name)


def flat(calls):
    return [number for call in calls for number in call]


def apart(numbers):
    found = []
    place = 0
    while place < len(numbers):
        length = numbers[place]
        answer = numbers[place + 1:place + 1 + length]
        if len(answer) != length or length < 1:
            raise AssertionError(f"answers are not counted right: {numbers}")
        found.append(answer)
        place += 1 + length
    return found


def ask(calls):
    """The answers of these calls, a list for each."""
    found = apart(answers(flat(calls)))
    if len(found) != len(calls):
        raise AssertionError(f"{len(calls)} calls, but {len(found)} answers")
    return found


def row_of(points):
    """The directions answered for a drawing of these points."""
    answer = ask(draw(points) + [ROW])[-1]
    if answer[0] != len(answer) - 1:
        raise AssertionError(f"directions are not counted right: {answer}")
    return answer[1:]


def taught(names):
    """Calls that teach a stroke to the right under each of these names."""
    return [call for name in names for call in draw([(0, 0), (9, 0)]) + [teach(name)]]
