"""The examiner of stairs, and of bounded codes that are said to be cheapest."""

from lettertoll.bounded import bounds_on_ground, refuse_top
from lettertoll.codes import cost
from lettertoll.errors import Unlike
from lettertoll.keptexam import first_above, has_rows, is_above, is_kept_for
from lettertoll.parted import parted_by


def step_lie(prices, weights, top, stairs):
    refuse_top(top)
    if not has_steps(weights, top, stairs):
        raise Unlike("the stairs have not such steps and rows as the weights and the top ask for")
    for step in range(top + 1):
        lie = first_above(stairs[step], bounds_on(prices, weights, stairs, step))
        if lie is not None:
            return (step, lie[0], lie[1])
    return None


def shows_bounded(prices, weights, top, code, stairs):
    if not stairs_hold(prices, weights, top, stairs):
        return False
    if not is_kept_for(prices, weights, code) or not is_bounded(code, top):
        return False
    return not is_above(cost(prices, weights, code), stairs[top][0][-1])


def shows_none(prices, weights, top, stairs):
    return stairs_hold(prices, weights, top, stairs) and stairs[top][0][-1] is None


def stairs_hold(prices, weights, top, stairs):
    refuse_top(top)
    return has_steps(weights, top, stairs) and step_lie(prices, weights, top, stairs) is None


def has_steps(weights, top, stairs):
    return len(stairs) == top + 1 and all([has_rows(weights, floors) for floors in stairs])


def is_bounded(code, top):
    return all([len(word) <= top for word in code])


def bounds_on(prices, weights, stairs, step):
    if step == 0:
        return bounds_on_ground(len(weights))
    return parted_by(prices, weights, stairs[step - 1]).bounds()
