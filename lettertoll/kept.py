"""The cheapest kept codes and the least floors that show it."""

from lettertoll.parted import parted_least, parted_words


def least_floors(prices, weights):
    return parted_least(prices, weights).bounds()


def cheapest_kept(prices, weights):
    parted = parted_least(prices, weights)
    floors = parted.bounds()
    code = tuple(kept_words(parted, 0, len(weights)))
    return (floors[0][-1], code, floors)


def kept_words(parted, first, end):
    if end - first == 1:
        return [()]
    return parted_words(parted, first, end, lambda start, stop: kept_words(parted, start, stop))
