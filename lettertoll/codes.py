"""Codes: their clashes, their knots and their cost."""

from lettertoll.errors import Clash, Unlike
from lettertoll.words import begins, word_price


def clash(code):
    for one in range(len(code)):
        for other in range(one + 1, len(code)):
            if begins(code[one], code[other]) or begins(code[other], code[one]):
                return (one, other)
    return None


def refuse_clash(code):
    pair = clash(code)
    if pair is not None:
        raise Clash(pair[0], pair[1])


def rises(code):
    return all([code[thing] < code[thing + 1] for thing in range(len(code) - 1)])


def is_kept(code):
    return rises(code) and clash(code) is None


def is_lean(code):
    return is_kept(code) and len(lone_knots(code)) == 0


def ways_on(code):
    # In a code free of clashes no word begins another one, so whatever begins
    # a word and is shorter than it is a knot.
    ways = {}
    for word in code:
        for size in range(len(word)):
            letters = ways.setdefault(word[:size], {})
            letters[word[size]] = True
    return ways


def knots_of(code):
    refuse_clash(code)
    return sorted(ways_on(code))


def lone_knots(code):
    refuse_clash(code)
    ways = ways_on(code)
    return [knot for knot in sorted(ways) if len(ways[knot]) == 1]


def cost(prices, weights, code):
    if len(code) != len(weights):
        raise Unlike("there are not as many words as weights")
    return sum([weight * word_price(prices, word) for weight, word in zip(weights, code)])
