"""How many cheapest kept codes there are, in all and with a word of a thing."""

from lettertoll.errors import BadWord, NoThing
from lettertoll.parted import parted_least, square
from lettertoll.words import has_letters_alone


class Counts:
    # codes[first][end] is how many cheapest kept codes the things of a stretch
    # have. tails[letter][first][end] is in how many ways such codes stand
    # behind the parts whose sum is the one in the tails of Parted.

    def __init__(self, prices, weights):
        self.parted = parted_least(prices, weights)
        self.letters = len(prices)
        side = len(weights) + 1
        self.codes = square(side, None)
        self.tails = [square(side, 1) for letter in range(self.letters + 1)]
        for first in range(len(weights) - 1, -1, -1):
            for end in range(first + 1, side):
                self.put_counts(first, end)

    # The codes go first: the tails with one part alone are made of them.
    def put_counts(self, first, end):
        self.codes[first][end] = 1 if end - first == 1 else self.over_ways(0, first, end)
        for letter in range(self.letters):
            self.tails[letter][first][end] = self.over_ways(letter, first, end)

    def over_ways(self, letter, first, end):
        return sum([self.by_way(way, first, end) for way in self.parted.ways(letter, first, end)])

    def by_way(self, way, first, end):
        return self.codes[first][way[1]] * self.tails[way[0] + 1][way[1]][end]


class CountsWith:
    # Counts the cheapest codes of stretches in which a thing has what is left
    # of a word behind so many letters. found keeps what was counted already.

    def __init__(self, counts, thing, word):
        self.counts = counts
        self.thing = thing
        self.word = word
        self.found = {}

    def of_stretch(self, first, end, size):
        if end - first == 1:
            return 1 if size == len(self.word) else 0
        if size == len(self.word):
            return 0
        return self.of_tail(0, first, end, size)

    def of_tail(self, letter, first, end, size):
        key = (letter, first, end, size)
        if key not in self.found:
            ways = self.counts.parted.ways(letter, first, end)
            self.found[key] = sum([self.of_way(way, first, end, size) for way in ways])
        return self.found[key]

    def of_way(self, way, first, end, size):
        cut = way[1]
        if cut <= self.thing:
            return self.counts.codes[first][cut] * self.of_tail(way[0] + 1, cut, end, size)
        if way[0] != self.word[size]:
            return 0
        return self.of_stretch(first, cut, size + 1) * self.counts.tails[way[0] + 1][cut][end]


def many_cheapest(prices, weights):
    return Counts(prices, weights).codes[0][len(weights)]


def many_with(prices, weights, thing, word):
    if not 0 <= thing < len(weights):
        raise NoThing("there is no such thing")
    if not has_letters_alone(word, len(prices)):
        raise BadWord("the word has a number that is no letter's")
    return CountsWith(Counts(prices, weights), thing, word).of_stretch(0, len(weights), 0)
