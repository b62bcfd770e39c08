"""The cheapest kept codes of bounded words and the least stairs that show it."""

from lettertoll.errors import BadNumber
from lettertoll.parted import parted_by, parted_words


def refuse_top(top):
    if not 0 <= top <= 24:
        raise BadNumber("a top is a number from 0 to 24")


def least_top(letters, things):
    top = 0
    words = 1
    while words < things:
        words = words * letters
        top += 1
    return top


def bounds_on_ground(things):
    return [[0] + [None] * (things - first - 1) for first in range(things)]


def least_stairs(prices, weights, top):
    refuse_top(top)
    stairs = [bounds_on_ground(len(weights))]
    for step in range(top):
        stairs.append(parted_by(prices, weights, stairs[step]).bounds())
    return stairs


def cheapest_bounded(prices, weights, top):
    stairs = least_stairs(prices, weights, top)
    least_cost = stairs[top][0][-1]
    if least_cost is None:
        return (None, None, stairs)
    steps = [parted_by(prices, weights, floors) for floors in stairs]
    return (least_cost, tuple(bounded_words(steps, top, 0, len(weights))), stairs)


# One part alone is no cheapest way here, either (see parted_words): the floor
# of its stretch on the step beneath is no less than that on this step.
def bounded_words(steps, step, first, end):
    if end - first == 1:
        return [()]
    beneath = step - 1
    return parted_words(
        steps[beneath], first, end, lambda start, stop: bounded_words(steps, beneath, start, stop)
    )
