"""The ways to part stretches, for some floors: bounds, codes and counts are made of them."""


def weight_sums(weights):
    sums = [0]
    for weight in weights:
        sums.append(sums[-1] + weight)
    return sums


def row_with(side, at, number):
    row = [None] * side
    row[at] = number
    return row


def square(side, diagonal):
    return [row_with(side, at, diagonal) for at in range(side)]


# None, which is greater than each number, stands for what is not there.


def least(numbers):
    return min([number for number in numbers if number is not None], default=None)


def added(one, other):
    if one is None or other is None:
        return None
    return one + other


class Parted:
    # heads[letter][first][end] is what the part (first, end, letter) adds to a
    # sum over parts. tails[letter][first][end] is the least sum over one part
    # or more from first to end whose letters are no less than this one; from
    # an end to itself there are no parts, and the sum is 0.

    def __init__(self, prices, weights):
        self.prices = prices
        self.things = len(weights)
        self.sums = weight_sums(weights)
        side = self.things + 1
        self.heads = [square(side, None) for price in prices]
        self.tails = [square(side, 0) for letter in range(len(prices) + 1)]

    # Floors are put from the last first on, for each first by rising ends:
    # a tail is made of tails with a later first and of heads with a lesser end.
    def put(self, first, end, floor):
        weight = self.sums[end] - self.sums[first]
        for letter in range(len(self.prices) - 1, -1, -1):
            self.heads[letter][first][end] = added(self.prices[letter] * weight, floor)
            with_letter = self.least_sum(letter, first, end, end)
            self.tails[letter][first][end] = least([with_letter, self.tails[letter + 1][first][end]])

    # The first part has just this letter and ends no later than last.
    def least_sum(self, letter, first, end, last):
        heads = self.heads[letter][first]
        tails = self.tails[letter + 1]
        return least([added(heads[cut], tails[cut][end]) for cut in range(first + 1, last + 1)])

    def bound(self, first, end):
        if end - first == 1:
            return 0
        return least([self.least_sum(letter, first, end, end - 1) for letter in range(len(self.prices))])

    def bound_row(self, first):
        return [self.bound(first, end) for end in range(first + 1, self.things + 1)]

    def bounds(self):
        return [self.bound_row(first) for first in range(self.things)]

    # All pairs (letter, end) of a first part of the parts that have the sum in tails.
    def ways(self, letter, first, end):
        goal = self.tails[letter][first][end]
        found = []
        for way in range(letter, len(self.prices)):
            for cut in range(first + 1, end + 1):
                if added(self.heads[way][first][cut], self.tails[way + 1][cut][end]) == goal:
                    found.append((way, cut))
        return found


def parted_by(prices, weights, floors):
    parted = Parted(prices, weights)
    for first in range(len(weights) - 1, -1, -1):
        for end in range(first + 1, len(weights) + 1):
            parted.put(first, end, floors[first][end - first - 1])
    return parted


def parted_least(prices, weights):
    parted = Parted(prices, weights)
    for first in range(len(weights) - 1, -1, -1):
        for end in range(first + 1, len(weights) + 1):
            parted.put(first, end, parted.bound(first, end))
    return parted


# The words that one of the cheapest ways to part a stretch gives to its
# things; words_of tells the words of a part, its letter taken off. Where the
# floors are least ones, one part alone is never such a way: it adds the
# floor of the stretch, which is the least sum over two parts or more, and its
# letter's price beyond that.
def parted_words(parted, first, end, words_of):
    words = []
    letter = 0
    start = first
    while start < end:
        way = parted.ways(letter, start, end)[0]
        words.extend([(way[0],) + word for word in words_of(start, way[1])])
        letter = way[0] + 1
        start = way[1]
    return words
