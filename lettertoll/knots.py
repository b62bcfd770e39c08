"""The cheapest knots of the endless tree of all words, and their ends."""

from lettertoll.errors import BadNumber, TooMany


def refuse_count(number, fewest):
    if number < fewest:
        raise BadNumber("this is below the least number")
    if number > 60:
        raise TooMany("there are at most 60 knots, and 60 things")


def cheapest_knots(prices, many):
    refuse_count(many, 0)
    return knots_and_ends(prices, many)[0]


def ends_of(prices, many):
    refuse_count(many, 0)
    return knots_and_ends(prices, many)[1]


# A word is dearer than its beginnings: so the cheapest of the ends so far is
# the next knot, and its place is taken by the words that go on from it.
def knots_and_ends(prices, many):
    knots = []
    ends = [(0, ())]
    while len(knots) < many:
        knot = ends[0]
        knots.append(knot)
        ends = sorted(ends[1:] + words_on(prices, knot))
    return (knots, ends)


def words_on(prices, knot):
    return [(knot[0] + price, knot[1] + (letter,)) for letter, price in enumerate(prices)]
