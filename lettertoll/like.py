"""The least sum of words for things that are all of one weight."""

from lettertoll.knots import ends_of, refuse_count


def like_sums(prices, things):
    refuse_count(things, 1)
    return [(many, sum_of_ends(prices, things, many)) for many in range(fewest_knots(prices, things), things)]


def like_code(prices, things):
    best = min(like_sums(prices, things), key=lambda pair: (pair[1], pair[0]))
    words = [word for price, word in first_ends(prices, things, best[0])]
    return (best[1], best[0], tuple(sorted(words)))


# So many knots have many * (letters - 1) + 1 ends.
def fewest_knots(prices, things):
    many = 0
    while many * (len(prices) - 1) + 1 < things:
        many += 1
    return many


def first_ends(prices, things, many):
    return ends_of(prices, many)[:things]


def sum_of_ends(prices, things, many):
    return sum([price for price, word in first_ends(prices, things, many)])
