"""Points [6.1], [0.4] and the interface's section on lettertoll/counted.py."""

import time
import unittest

from lettertoll.counted import many_cheapest, many_with
from lettertoll.errors import BadWord, NoThing
from tests.by_trial import MOST, cheapest_codes, cost_of, kept_codes, some_books, words_up_to

# Small prices and weights have many cheapest codes.
FEW = some_books(81, 40, (2, 3), (1, 6), 3) + some_books(82, 10, (2, 6), (1, 4), MOST) + [
    ((1, 1), (1,)), ((1, 1), (1,) * 7), ((1,) * 6, (1,) * 4), ((2, 2, 2), (3,) * 5), ((1, 2, 1), (1, 1, 1, 1)),
    ((MOST, MOST), (MOST,) * 5), ((MOST, MOST, 1), (1, MOST, 1, MOST)),
]


class TestManyCheapest(unittest.TestCase):
    def test_some(self):
        self.assertEqual(many_cheapest((1, 1), (1, 1)), 1)
        self.assertEqual(many_cheapest((1, 1), (1, 1, 1)), 2)
        self.assertEqual(many_cheapest((1, 1, 1), (1, 1)), 3)
        self.assertEqual(many_cheapest((1, 2), (3,)), 1)
        self.assertEqual(many_cheapest((1,) * 6, (5,) * 3), 20)

    def test_few_things_by_trial(self):
        for prices, weights in FEW:
            self.assertEqual(many_cheapest(prices, weights), len(cheapest_codes(prices, weights)))

    def test_all_kept_codes_gone_through(self):
        for prices, weights in (((1, 1), (1, 1, 1)), ((1, 2), (2, 1, 1)), ((1, 1, 2), (1, 2)), ((1, 2), (1,))):
            costs = [cost_of(prices, weights, code) for code in kept_codes(len(prices), len(weights), 3)]
            self.assertEqual(many_cheapest(prices, weights), costs.count(min(costs)))

    def test_like_things_and_two_like_letters(self):
        # Of so many things beyond a full row of words, any ones stand one letter lower.
        for things, many in ((2, 1), (3, 2), (4, 1), (5, 4), (6, 6), (7, 4), (8, 1), (12, 70), (16, 1), (24, 12870)):
            self.assertEqual(many_cheapest((1, 1), (1,) * things), many)
            self.assertEqual(many_cheapest((MOST, MOST), (MOST,) * things), many)

    def test_all_prices_or_weights_taken_so_many_times(self):
        for prices, weights in some_books(83, 10, (2, 6), (8, 16), 3):
            many = many_cheapest(prices, weights)
            self.assertEqual(many_cheapest(tuple(10 ** 29 * price for price in prices), weights), many)
            self.assertEqual(many_cheapest(prices, tuple(10 ** 29 * weight for weight in weights)), many)
            self.assertEqual(many_cheapest(prices[::-1], weights[::-1]), many)

    def test_many_things_and_letters_in_a_short_time(self):
        began = time.monotonic()
        self.assertEqual(many_cheapest((1,) * 6, (1,) * 24), 4140)
        for prices, weights in some_books(84, 3, (6, 6), (24, 24), MOST):
            self.assertEqual(many_cheapest(prices, weights), 1)
        self.assertLess(time.monotonic() - began, 20)


class TestManyWith(unittest.TestCase):
    def test_some(self):
        self.assertEqual(many_with((1, 1), (1, 1, 1), 0, (0,)), 1)
        self.assertEqual(many_with((1, 1), (1, 1, 1), 0, (0, 0)), 1)
        self.assertEqual(many_with((1, 1), (1, 1, 1), 1, (0, 1)), 1)
        self.assertEqual(many_with((1, 1), (1, 1, 1), 1, (1, 0)), 1)
        self.assertEqual(many_with((1, 1), (1, 1, 1), 1, (0, 0)), 0)
        self.assertEqual(many_with((1, 1, 1), (1, 1), 0, (0,)), 2)
        self.assertEqual(many_with((1, 1, 1), (1, 1), 0, (1,)), 1)
        self.assertEqual(many_with((1, 1, 1), (1, 1), 0, (2,)), 0)

    def test_one_thing(self):
        self.assertEqual(many_with((1, 2), (3,), 0, ()), 1)
        for word in ((0,), (1,), (0, 1), (0,) * 60):
            self.assertEqual(many_with((1, 2), (3,), 0, word), 0)

    def test_the_empty_word_of_several_things(self):
        for things in (2, 3, 24):
            for thing in (0, 1, things - 1):
                self.assertEqual(many_with((1, 1), (1,) * things, thing, ()), 0)

    def test_few_things_by_trial(self):
        for prices, weights in FEW:
            codes = cheapest_codes(prices, weights)
            words = set(words_up_to(len(prices), 2)) | {word for code in codes for word in code}
            words |= {word + (1,) for word in words} | {word[:-1] for word in words}
            for thing in range(len(weights)):
                for word in words:
                    asked = sum(code[thing] == word for code in codes)
                    self.assertEqual(many_with(prices, weights, thing, word), asked, (prices, weights, thing, word))

    def test_the_counts_over_all_words_of_a_thing_add_up(self):
        for prices, weights, longest in (
            ((1, 1), (1,) * 12, 4), ((1, 1, 1), (1,) * 13, 3), ((1, 1, 2), (1,) * 9, 3), ((2, 2), (1,) * 7, 3),
            ((1,) * 6, (1,) * 8, 2),
        ):
            many = many_cheapest(prices, weights)
            self.assertGreater(many, 1)
            for thing in range(len(weights)):
                counts = [many_with(prices, weights, thing, word) for word in words_up_to(len(prices), longest)]
                self.assertEqual(sum(counts), many)

    def test_many_things_and_letters_in_a_short_time(self):
        began = time.monotonic()
        many = many_cheapest((1,) * 6, (1,) * 24)
        for thing in (0, 11, 23):
            counts = [many_with((1,) * 6, (1,) * 24, thing, word) for word in words_up_to(6, 2)]
            self.assertEqual(sum(counts), many)
        self.assertEqual(many_with((1, 1), (1,) * 24, 0, (0, 0, 0, 0)), 12870 // 2)
        self.assertEqual(many_with((1, 1), (1,) * 24, 23, (1, 1, 1, 1, 1)), 12870 // 2)
        self.assertEqual(many_with((1, 1), (1,) * 24, 12, (1,) * 60), 0)
        self.assertLess(time.monotonic() - began, 60)

    def test_the_deepest_code(self):
        weights = tuple(10 ** (29 - thing) for thing in range(24))
        for thing in range(24):
            word = (1,) * thing + (0,) if thing < 23 else (1,) * 23
            self.assertEqual(many_with((1, 1), weights, thing, word), 1)
            self.assertEqual(many_with((1, 1), weights, thing, word + (0,)), 0)
            self.assertEqual(many_with((1, 1), weights, thing, word[:-1]), 0)

    def test_things_that_are_none(self):
        for thing in (-1, -3, 3, 4, MOST, -MOST):
            self.assertRaises(NoThing, many_with, (1, 2), (5, 5, 5), thing, (0,))
        self.assertRaises(NoThing, many_with, (1, 2), (5,), 1, ())

    def test_numbers_that_are_no_letters(self):
        for number in (-1, -2, 2, 3, MOST, -MOST):
            for word in ((number,), (0, number), (number, 0), (0,) * 59 + (number,)):
                self.assertRaises(BadWord, many_with, (1, 2), (5, 5, 5), 0, word)
                self.assertRaises(BadWord, many_with, (1, 2), (5,), 0, word)

    def test_no_thing_goes_ahead_of_bad_word(self):
        self.assertRaises(NoThing, many_with, (1, 2), (5, 5, 5), 3, (2,))
        self.assertRaises(NoThing, many_with, (1, 2), (5, 5, 5), -1, (-1,))
        self.assertRaises(BadWord, many_with, (1, 2), (5, 5, 5), 2, (2,))

    def test_the_same_question_has_the_same_answer(self):
        first = many_with((1, 1), (1,) * 6, 2, (0, 1, 0))
        many_with((1, 2), (3,) * 6, 2, (0, 1, 0))
        self.assertEqual(many_with((1, 1), (1,) * 6, 2, (0, 1, 0)), first)
        self.assertEqual(first, sum(code[2] == (0, 1, 0) for code in cheapest_codes((1, 1), (1,) * 6)))


if __name__ == "__main__":
    unittest.main()
