"""What the document's points tell, found by going through all that there is.

Nothing here is drawn from the package: it is what the package is held against.
"""

import functools
import itertools
import random

MOST = 1000000000000000000000000000000


def price_of(prices, word):
    return sum(prices[letter] for letter in word)


def cost_of(prices, weights, code):
    return sum(weight * price_of(prices, word) for weight, word in zip(weights, code))


def stands_ahead(one, other):
    return len(one) <= len(other) and all(mine == its for mine, its in zip(one, other))


def clash_there(one, other):
    return stands_ahead(one, other) or stands_ahead(other, one)


@functools.lru_cache(maxsize=None)
def words_up_to(letters, longest):
    """All words of at most so many letters, in their order."""
    return tuple(sorted(
        word for size in range(longest + 1) for word in itertools.product(range(letters), repeat=size)
    ))


@functools.lru_cache(maxsize=None)
def kept_codes(letters, things, longest):
    """All kept codes of words of at most so many letters."""
    if things == 0:
        return ((),)
    found = []
    for shorter in kept_codes(letters, things - 1, longest):
        for word in words_up_to(letters, longest):
            # In a kept code of which the words rise, only neighbours need be asked.
            if not shorter or (shorter[-1] < word and not clash_there(shorter[-1], word)):
                found.append(shorter + (word,))
    return tuple(found)


@functools.lru_cache(maxsize=None)
def ways_to_share(things, least, letters):
    """All tuples of pairs (letter, many), one or more, of rising letters, for so many things."""
    found = []
    for letter in range(least, letters):
        found.append(((letter, things),))
        for many in range(1, things):
            for rest in ways_to_share(things - many, letter + 1, letters):
                found.append(((letter, many),) + rest)
    return tuple(found)


@functools.lru_cache(maxsize=None)
def lean_codes(letters, things):
    """All lean codes."""
    if things == 1:
        return (((),),)
    found = []
    for shares in ways_to_share(things, 0, letters):
        if len(shares) == 1:
            continue
        branches = [
            [tuple((letter,) + word for word in code) for code in lean_codes(letters, many)]
            for letter, many in shares
        ]
        for chosen in itertools.product(*branches):
            found.append(tuple(word for words in chosen for word in words))
    return tuple(found)


def spelling_by_words(code):
    """The spelling: the order of words puts each beginning right ahead of what goes on from it."""
    beginnings = {word[:size] for word in code for size in range(1, len(word) + 1)}
    return [
        (beginning[-1], sum(stands_ahead(beginning, word) for word in code))
        for beginning in sorted(beginnings)
    ]


def read_by_words(code, letters):
    """The things and the rest, the letters read as [3.1] tells; None where one begins no word."""
    things, rest = [], ()
    for letter in letters:
        rest += (letter,)
        if rest in code:
            things.append(code.index(rest))
            rest = ()
        elif not any(word[:len(rest)] == rest for word in code):
            return None
    return (things, rest)


def partings(first, end, letters):
    """All tuples of two parts or more that part a stretch."""
    found = []
    for shares in ways_to_share(end - first, 0, letters):
        if len(shares) > 1:
            parts, start = [], first
            for letter, many in shares:
                parts.append((start, start + many, letter))
                start += many
            found.append(tuple(parts))
    return found


def sum_of_parts(prices, weights, floors, parts):
    return sum(
        prices[letter] * sum(weights[first:end]) + floors[first][end - first - 1]
        for first, end, letter in parts
    )


def bound_of(prices, weights, floors, first, end):
    if end - first == 1:
        return 0
    return min(sum_of_parts(prices, weights, floors, parts) for parts in partings(first, end, len(prices)))


def stretches(things):
    return [(first, end) for first in range(things) for end in range(first + 1, things + 1)]


def least_cost(prices, weights):
    """The cost of the cheapest kept codes, letter by letter, for many things."""

    @functools.lru_cache(maxsize=None)
    def of_stretch(first, end):
        if end - first == 1:
            return 0
        return of_ways(first, end, 0, True)

    @functools.lru_cache(maxsize=None)
    def of_ways(first, end, letter, all_of_it):
        if first == end:
            return 0
        if letter == len(prices):
            return None
        found = [of_ways(first, end, letter + 1, all_of_it)]
        for cut in range(first + 1, end if all_of_it else end + 1):
            rest = of_ways(cut, end, letter + 1, False)
            if rest is not None:
                found.append(prices[letter] * sum(weights[first:cut]) + of_stretch(first, cut) + rest)
        return min((number for number in found if number is not None), default=None)

    return of_stretch(0, len(weights))


def some_books(seed, many, letters, things, most):
    """So many pairs of prices and weights; letters and things: the fewest and the most."""
    chance = random.Random(seed)
    found = []
    for number in range(many):
        prices = tuple(chance.randint(1, most) for letter in range(chance.randint(*letters)))
        weights = tuple(chance.randint(1, most) for thing in range(chance.randint(*things)))
        found.append((prices, weights))
    return found


def bound_on_step(prices, weights, stairs, step, first, end):
    """The bound of stairs, None among them."""
    if end - first == 1:
        return 0
    if step == 0:
        return None
    beneath = stairs[step - 1]
    return min((
        sum_of_parts(prices, weights, beneath, parts)
        for parts in partings(first, end, len(prices))
        if all(beneath[start][stop - start - 1] is not None for start, stop, letter in parts)
    ), default=None)


def cheapest_codes(prices, weights):
    """All cheapest kept codes, in the order of their spellings."""
    codes = lean_codes(len(prices), len(weights))
    least = min(cost_of(prices, weights, code) for code in codes)
    return sorted((code for code in codes if cost_of(prices, weights, code) == least), key=spelling_by_words)


# Prices and weights for free order.
FREE_BOOKS = some_books(111, 8, (2, 6), (1, 6), 9) + some_books(112, 6, (2, 6), (1, 6), MOST) + [
    ((1, 1), (1,)), ((1, 1), (1,) * 7), ((3, 1), (1, 2, 3, 4, 5, 6, 7)), ((1,) * 6, (1,) * 6), ((MOST,) * 6, (MOST,) * 6),
    ((2, 2, 5), (4, 4, 1, 1)), ((MOST, 1), (MOST, 1, MOST, 1, 1, 1, 1)), ((7, 3, 5, 1, 9, 2), (6, 5, 4, 3, 2, 1)),
]

# More things than free order is for, and as many as it is for.
TOO_MANY = [((1,) * letters, (1,) * things) for letters in range(3, 7) for things in (7, 8, 24)]
TOO_MANY += [((1, 2), (1,) * things) for things in (8, 9, 24)]

AS_MANY = [((1,) * letters, (1,) * 6) for letters in range(2, 7)] + [((1, 2), (1,) * 7)]
