"""Prices, weights and words."""

from lettertoll.errors import BadPrices, BadWeights, BadWord, TooMany

MOST_COUNTED = 3000


def is_amount(number):
    return 1 <= number <= 10 ** 30


def are_amounts(numbers, fewest, most):
    return fewest <= len(numbers) <= most and all([is_amount(number) for number in numbers])


def made_prices(prices):
    if not are_amounts(prices, 2, 6):
        raise BadPrices("prices are 2 to 6 numbers, each from 1 to 10**30")
    return tuple(prices)


def made_weights(weights):
    if not are_amounts(weights, 1, 24):
        raise BadWeights("weights are 1 to 24 numbers, each from 1 to 10**30")
    return tuple(weights)


def has_letters_alone(word, letters):
    return all([0 <= letter < letters for letter in word])


def word_price(prices, word):
    # Asked ahead of the sum: an index below 0 would find a price from behind.
    if not has_letters_alone(word, len(prices)):
        raise BadWord("the word has a number that is no letter's")
    return sum([prices[letter] for letter in word])


def begins(one, other):
    return other[:len(one)] == one


def shared(one, other):
    size = 0
    while size < len(one) and size < len(other) and one[size] == other[size]:
        size += 1
    return one[:size]


def words_many(prices, price):
    if price > MOST_COUNTED:
        raise TooMany("words are counted for prices up to 3000")
    if price < 0:
        return 0
    # Each word but the empty one is a cheaper word and its last letter, so the
    # counts of the cheaper ones are all that a count needs.
    counts = [1]
    for total in range(1, price + 1):
        counts.append(sum([counts[total - last] for last in prices if last <= total]))
    return counts[price]
