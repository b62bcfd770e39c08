"""The examiner of floors, and of codes that are said to be cheapest kept ones."""

from lettertoll.codes import cost, is_kept
from lettertoll.errors import NoThing, Unlike
from lettertoll.parted import parted_by
from lettertoll.words import has_letters_alone


def bound_by(prices, weights, floors, first, end):
    refuse_rows(weights, floors)
    if not 0 <= first < end <= len(weights):
        raise NoThing("this is no stretch of the things")
    return parted_by(prices, weights, floors).bound(first, end)


def first_lie(prices, weights, floors):
    refuse_rows(weights, floors)
    return first_above(floors, parted_by(prices, weights, floors).bounds())


def shows_kept(prices, weights, code, floors):
    if not has_rows(weights, floors) or not is_kept_for(prices, weights, code):
        return False
    return first_lie(prices, weights, floors) is None and cost(prices, weights, code) <= floors[0][-1]


def has_rows(weights, floors):
    return [len(row) for row in floors] == list(range(len(weights), 0, -1))


def refuse_rows(weights, floors):
    if not has_rows(weights, floors):
        raise Unlike("the floors have not such rows as the weights ask for")


def is_kept_for(prices, weights, code):
    if len(code) != len(weights) or not is_kept(code):
        return False
    return all([has_letters_alone(word, len(prices)) for word in code])


def first_above(floors, bounds):
    for first in range(len(bounds)):
        for at in range(len(bounds[first])):
            if is_above(floors[first][at], bounds[first][at]):
                return (first, first + 1 + at)
    return None


# None is greater than each number, and not greater than itself.
def is_above(floor, bound):
    if bound is None:
        return False
    return floor is None or floor > bound
