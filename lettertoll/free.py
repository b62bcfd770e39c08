"""The cheapest codes in free order, by rows of moves."""

from lettertoll.codes import clash, cost
from lettertoll.errors import BadNumber
from lettertoll.frontiers import FIRST, frontier_floors, frontiers_hold, moves, refuse_many
from lettertoll.words import has_letters_alone, word_price


def code_of_moves(prices, weights, row):
    refuse_many(prices, weights)
    frontier = FIRST
    knots = [(0, ())]
    words = []
    for number in row:
        frontier = led_to(prices, weights, frontier, number)
        # The least knot is the cheapest one.
        knots = sorted(knots)
        word = knots[0][1]
        if number == 0:
            words.append(word)
        knots = knots[1:] + opened(prices, word, number)
    if len(words) < len(weights):
        raise BadNumber("the row of moves ends ahead of the last frontier")
    return in_own_order(weights, words)


def led_to(prices, weights, frontier, number):
    for move in moves(prices, weights, frontier):
        if move[0] == number:
            return move[2]
    raise BadNumber("this is no move there")


def cheap_letters(prices):
    return sorted(range(len(prices)), key=lambda letter: (prices[letter], letter))


def opened(prices, word, many):
    longer = [word + (letter,) for letter in cheap_letters(prices)[:many]]
    return [(word_price(prices, one), one) for one in longer]


# The words are told in the order in which the things are settled.
def in_own_order(weights, words):
    things = sorted(range(len(weights)), key=lambda thing: (-weights[thing], thing))
    return tuple([word for thing, word in sorted(zip(things, words))])


def free_moves(prices, weights):
    floors = dict(frontier_floors(prices, weights))
    row = []
    frontier = FIRST
    while frontier[0] < len(weights):
        best = min(moves(prices, weights, frontier), key=lambda move: move[1] + floors[move[2]])
        row.append(best[0])
        frontier = best[2]
    return row


def free_code(prices, weights):
    code = code_of_moves(prices, weights, free_moves(prices, weights))
    return (cost(prices, weights, code), code)


def free_shown(prices, weights, code, told):
    refuse_many(prices, weights)
    if len(code) != len(weights) or not all([has_letters_alone(word, len(prices)) for word in code]):
        return False
    if clash(code) is not None or not frontiers_hold(prices, weights, told):
        return False
    return cost(prices, weights, code) <= dict(told)[FIRST]
