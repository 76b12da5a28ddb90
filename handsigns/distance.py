"""How far two rows of directions are apart."""

PUT_IN_COST = 2
LEFT_OUT_COST = 2
FULL_TURN = 8


def turn_between(one, other):
    eighths = abs(one - other)
    return min(eighths, FULL_TURN - eighths)


def like_at_the_beginning(one, other):
    alike = 0
    for left, right in zip(one, other):
        if left != right:
            break
        alike = alike + 1
    return alike


def costs_from_nothing(goal):
    return [PUT_IN_COST * length for length in range(len(goal) + 1)]


# costs holds, for each beginning of the goal, what it costs at least to make it of the directions so far.
def costs_with_one_more(costs, direction, goal):
    more = [costs[0] + LEFT_OUT_COST]
    for place, wanted in enumerate(goal):
        changed = costs[place] + turn_between(direction, wanted)
        left_out = costs[place + 1] + LEFT_OUT_COST
        put_in = more[place] + PUT_IN_COST
        more.append(min(changed, left_out, put_in))
    return more


# A drawing grows point by point and is asked about again and again: the costs that were worked out for the last row
# are kept, and those of the beginning that the next row shares with it are not worked out anew.
class Measure:
    def __init__(self, goal):
        self.goal = goal
        self.measured = []
        self.steps = [costs_from_nothing(goal)]

    def distance_from(self, directions):
        alike = like_at_the_beginning(self.measured, directions)
        steps = self.steps[:alike + 1]
        for direction in directions[alike:]:
            steps.append(costs_with_one_more(steps[-1], direction, self.goal))
        self.measured = list(directions)
        self.steps = steps
        return steps[-1][-1]
