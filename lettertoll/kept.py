"""The cheapest kept codes and the least floors that show it."""

from lettertoll.codes import cost, is_kept
from lettertoll.parted import parted_least, parted_words


def least_floors(prices, weights):
    return parted_least(prices, weights).bounds()


def cheapest_kept(prices, weights):
    parted = parted_least(prices, weights)
    floors = parted.bounds()
    code = tuple(kept_words(parted, 0, len(weights)))
    return (floors[0][-1], code, floors)


def kept_words(parted, first, end):
    if end - first == 1:
        return [()]
    return parted_words(parted, first, end, lambda start, stop: kept_words(parted, start, stop))


# Refuses as cost does.
def is_cheapest_kept(prices, weights, code):
    return cost(prices, weights, code) == least_floors(prices, weights)[0][-1] and is_kept(code)
