"""A price or a weight moved: how a code's cost goes with it, and how far the code stays a cheapest one."""

from lettertoll.codes import cost
from lettertoll.errors import BadNumber, BadWord, NotCheapest, NoThing
from lettertoll.kept import cheapest_kept, is_cheapest_kept
from lettertoll.words import is_amount, word_price


def price_moved(prices, letter, number):
    refuse_letter(prices, letter)
    return with_number(prices, letter, number)


def weight_moved(weights, thing, number):
    refuse_thing(weights, thing)
    return with_number(weights, thing, number)


def refuse_letter(prices, letter):
    if not 0 <= letter < len(prices):
        raise BadWord("there is no such letter")


def refuse_thing(weights, thing):
    if not 0 <= thing < len(weights):
        raise NoThing("there is no such thing")


def with_number(numbers, at, number):
    if not is_amount(number):
        raise BadNumber("a price or a weight is a number from 1 to 10**30")
    return numbers[:at] + (number,) + numbers[at + 1:]


# What cost refuses is refused here, too, and ahead of the letter and the thing.


def price_share(prices, weights, code, letter):
    cost(prices, weights, code)
    refuse_letter(prices, letter)
    return sum([weight * word.count(letter) for weight, word in zip(weights, code)])


def weight_share(prices, weights, code, thing):
    cost(prices, weights, code)
    refuse_thing(weights, thing)
    return word_price(prices, code[thing])


class PriceMove:
    def __init__(self, prices, weights, letter):
        self.prices = prices
        self.weights = weights
        self.letter = letter

    def now(self):
        return self.prices[self.letter]

    def share(self, code):
        return price_share(self.prices, self.weights, code, self.letter)

    def cheapest_at(self, number):
        return cheapest_kept(price_moved(self.prices, self.letter, number), self.weights)[1]


class WeightMove:
    def __init__(self, prices, weights, thing):
        self.prices = prices
        self.weights = weights
        self.thing = thing

    def now(self):
        return self.weights[self.thing]

    def share(self, code):
        return weight_share(self.prices, self.weights, code, self.thing)

    def cheapest_at(self, number):
        return cheapest_kept(self.prices, weight_moved(self.weights, self.thing, number))[1]


# The end of a code's stretch towards a number, and a code that costs less one
# beyond that end, None where the end is that number. Costs go evenly: the lead
# that a code has now over another one shrinks by the same amount for each one
# more. So the last number at which it is not yet lost to the other one is told
# by a division, and none beyond it is in the stretch.
def end_towards(move, code, far):
    ahead = 1 if far > move.now() else -1
    number = far
    cheaper = None
    while True:
        other = move.cheapest_at(number)
        lead = cost(move.prices, move.weights, other) - cost(move.prices, move.weights, code)
        loss = ahead * (move.share(code) - move.share(other))
        if loss * abs(number - move.now()) <= lead:
            return (number, cheaper)
        number = move.now() + ahead * (lead // loss)
        cheaper = other


def both_ends(move, code):
    # Refuses as the shares do.
    move.share(code)
    if not is_cheapest_kept(move.prices, move.weights, code):
        raise NotCheapest("this is no cheapest kept code")
    return (end_towards(move, code, 1), end_towards(move, code, 10 ** 30))


def stretch_of(move, code):
    ends = both_ends(move, code)
    return (ends[0][0], ends[1][0])


def beyond_of(move, code):
    ends = both_ends(move, code)
    return (ends[0][1], ends[1][1])


def price_stretch(prices, weights, code, letter):
    return stretch_of(PriceMove(prices, weights, letter), code)


def weight_stretch(prices, weights, code, thing):
    return stretch_of(WeightMove(prices, weights, thing), code)


def price_beyond(prices, weights, code, letter):
    return beyond_of(PriceMove(prices, weights, letter), code)


def weight_beyond(prices, weights, code, thing):
    return beyond_of(WeightMove(prices, weights, thing), code)
