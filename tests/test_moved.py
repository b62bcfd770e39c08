"""Points [7.1], [7.2], [7.3], [0.4] and the interface's section on lettertoll/moved.py."""

import random
import time
import unittest

from lettertoll.codes import cost, is_kept
from lettertoll.errors import BadNumber, BadWord, NotCheapest, NoThing, Unlike
from lettertoll.kept import cheapest_kept
from lettertoll.moved import (
    price_beyond, price_moved, price_share, price_stretch, weight_beyond, weight_moved, weight_share, weight_stretch,
)
from lettertoll.numbered import numbered
from tests.by_trial import MOST, cheapest_codes, cost_of, lean_codes, some_books

NO_AMOUNTS = (0, -1, -MOST, MOST + 1, MOST * MOST)

FEW = some_books(101, 12, (2, 3), (1, 4), 9) + some_books(102, 8, (2, 4), (1, 4), MOST) + [
    ((1, 1), (1,)), ((1, 1), (1,) * 5), ((1, 1, 1), (1, 1)), ((MOST, MOST), (MOST,) * 4), ((MOST, 1), (1, MOST, 1)),
    ((1, MOST - 1), (MOST, MOST - 1, 1)), ((1, 2), (8, 4, 2, 1)), ((3, 2, 1), (1, 9, 1)), ((MOST, MOST - 1), (5, 4, 4)),
]


def with_price(prices, letter, number):
    return prices[:letter] + (number,) + prices[letter + 1:]


def least_by_trial(prices, weights):
    return min(cost_of(prices, weights, code) for code in lean_codes(len(prices), len(weights)))


class TestMoved(unittest.TestCase):
    def test_another_number_stands_in_its_place(self):
        self.assertEqual(price_moved((5, 6, 7), 0, 9), (9, 6, 7))
        self.assertEqual(price_moved((5, 6, 7), 2, 9), (5, 6, 9))
        self.assertEqual(weight_moved((5, 6, 7), 1, 9), (5, 9, 7))
        self.assertEqual(weight_moved((5,), 0, 9), (9,))
        self.assertEqual(price_moved((5, 6), 1, 6), (5, 6))

    def test_tuples_are_told(self):
        self.assertIs(price_moved((5, 6), 1, 7).__class__, tuple)
        self.assertIs(weight_moved((5, 6), 1, 7).__class__, tuple)

    def test_numbers_from_1_to_10_to_the_30(self):
        for number in (1, 2, MOST - 1, MOST):
            self.assertEqual(price_moved((5, 6), 1, number), (5, number))
            self.assertEqual(weight_moved((5, 6), 0, number), (number, 6))
        for number in NO_AMOUNTS:
            self.assertRaises(BadNumber, price_moved, (5, 6), 1, number)
            self.assertRaises(BadNumber, weight_moved, (5, 6), 0, number)

    def test_letters_and_things_that_there_are_not(self):
        for at in (-1, -2, 2, 3, MOST, -MOST):
            for number in (5, 0, MOST + 1):
                self.assertRaises(BadWord, price_moved, (5, 6), at, number)
                self.assertRaises(NoThing, weight_moved, (5, 6), at, number)


class TestShares(unittest.TestCase):
    def test_some(self):
        code = ((0, 0), (0, 1), (1,))
        self.assertEqual(price_share((3, 4), (10, 100, 1000), code, 0), 120)
        self.assertEqual(price_share((3, 4), (10, 100, 1000), code, 1), 1100)
        self.assertEqual([weight_share((3, 4), (10, 100, 1000), code, thing) for thing in range(3)], [6, 7, 4])
        self.assertEqual(price_share((3, 4), (10,), ((),), 1), 0)
        self.assertEqual(weight_share((3, 4), (10,), ((),), 0), 0)

    def test_the_cost_goes_evenly_also_of_codes_with_clashes(self):
        chance = random.Random(103)
        for prices, weights in FEW:
            for again in range(5):
                code = tuple(
                    tuple(chance.randrange(len(prices)) for at in range(chance.randrange(5))) for thing in weights
                )
                for letter, price in enumerate(prices):
                    share = price_share(prices, weights, code, letter)
                    for number in (1, 2, price, MOST):
                        moved = price_moved(prices, letter, number)
                        asked = cost(prices, weights, code) + (number - price) * share
                        self.assertEqual(cost(moved, weights, code), asked)
                        self.assertEqual(price_share(moved, weights, code, letter), share)
                for thing, weight in enumerate(weights):
                    share = weight_share(prices, weights, code, thing)
                    for number in (1, 2, weight, MOST):
                        moved = weight_moved(weights, thing, number)
                        asked = cost(prices, weights, code) + (number - weight) * share
                        self.assertEqual(cost(prices, moved, code), asked)

    def test_words_of_sixty_letters(self):
        self.assertEqual(price_share((1, MOST), (MOST, 1), ((1,) * 60, (1,) * 60), 1), 60 * (MOST + 1))
        self.assertEqual(weight_share((1, MOST), (MOST, 1), ((1,) * 60, (0,) * 60), 0), 60 * MOST)


class TestRefusals(unittest.TestCase):
    BY_PRICE = (price_share, price_stretch, price_beyond)
    BY_WEIGHT = (weight_share, weight_stretch, weight_beyond)

    def test_unlike_counts_ahead_of_all(self):
        for ask in self.BY_PRICE + self.BY_WEIGHT:
            for at in (0, 1, 2, -1, 7):
                for code in (((0,),), ((0,), (1, 0), (1, 1)), ((5,),), ((0,), (0,), (9,)), ((0,),) * 24):
                    self.assertRaises(Unlike, ask, (1, 2), (5, 6), code, at)

    def test_bad_words_next(self):
        for ask in self.BY_PRICE + self.BY_WEIGHT:
            for at in (0, 1, 2, -1, 7):
                for code in (((0,), (2,)), ((-1,), (1,)), ((0, 0), (0, 5)), ((MOST,), (1,)), ((0,), (0, 2))):
                    self.assertRaises(BadWord, ask, (1, 2), (5, 6), code, at)

    def test_letters_and_things_that_there_are_not(self):
        for at in (-1, -2, 2, 3, MOST, -MOST):
            for code in (((0,), (1,)), ((0,), (0,)), ((1, 1), (0,))):
                for ask in self.BY_PRICE:
                    self.assertRaises(BadWord, ask, (1, 2), (5, 6), code, at)
                for ask in self.BY_WEIGHT:
                    self.assertRaises(NoThing, ask, (1, 2), (5, 6), code, at)

    def test_no_cheapest_kept_codes_at_last(self):
        for ask in (price_stretch, price_beyond, weight_stretch, weight_beyond):
            for code in (((0,), (1, 0)), ((1,), (0,)), ((0,), (0,)), ((), ()), ((0, 0), (1,))):
                for at in (0, 1):
                    self.assertRaises(NotCheapest, ask, (1, 2), (5, 6), code, at)
            self.assertRaises(NotCheapest, ask, (1, 2), (5,), ((0,),), 0)
            # Kept, and but a little too dear.
            self.assertRaises(NotCheapest, ask, (1, 3), (7, 2, 2), ((0, 0), (0, 1), (1,)), 0)

    def test_shares_of_such_codes_are_told(self):
        for code in (((0,), (1, 0)), ((1,), (0,)), ((0,), (0,)), ((), ())):
            self.assertEqual(price_share((1, 2), (5, 6), code, 0), sum(
                weight * word.count(0) for weight, word in zip((5, 6), code)
            ))
            self.assertEqual(weight_share((1, 2), (5, 6), code, 0), sum((1, 2)[letter] for letter in code[0]))


class TestStretches(unittest.TestCase):
    def check_stretch(self, stretch, now, is_cheapest, numbers):
        """The code is a cheapest one just from low to high, asked by trial number by number."""
        self.assertIs(stretch.__class__, tuple)
        low, high = stretch
        self.assertTrue(1 <= low <= now <= high <= MOST)
        edges = {low - 1, low, low + 1, high - 1, high, high + 1, 1, MOST, now - 1, now, now + 1, now * 2, now // 2}
        for number in edges | set(numbers):
            if 1 <= number <= MOST:
                self.assertEqual(is_cheapest(number), low <= number <= high, (stretch, number))

    def check_beyond(self, beyond, stretch, things, cost_at, code):
        self.assertIs(beyond.__class__, tuple)
        self.assertEqual(len(beyond), 2)
        for other, inside, number in ((beyond[0], stretch[0] == 1, stretch[0] - 1), (beyond[1], stretch[1] == MOST, stretch[1] + 1)):
            self.assertEqual(other is None, inside)
            if other is not None:
                self.assertEqual(len(other), things)
                self.assertTrue(is_kept(other))
                self.assertLess(cost_at(number, other), cost_at(number, code))

    def check_book(self, prices, weights, code, numbers, least, each=1):
        for letter, price in list(enumerate(prices))[::each]:
            def cost_at(number, other):
                return cost(with_price(prices, letter, number), weights, other)

            stretch = price_stretch(prices, weights, code, letter)
            self.check_stretch(
                stretch, price, lambda number: cost_at(number, code) == least(with_price(prices, letter, number), weights),
                numbers,
            )
            self.check_beyond(price_beyond(prices, weights, code, letter), stretch, len(weights), cost_at, code)
        for thing, weight in list(enumerate(weights))[::each]:
            def cost_with(number, other):
                return cost(prices, with_price(weights, thing, number), other)

            stretch = weight_stretch(prices, weights, code, thing)
            self.check_stretch(
                stretch, weight, lambda number: cost_with(number, code) == least(prices, with_price(weights, thing, number)),
                numbers,
            )
            self.check_beyond(weight_beyond(prices, weights, code, thing), stretch, len(weights), cost_with, code)

    def test_few_things_by_trial_number_by_number(self):
        for prices, weights in FEW:
            for code in cheapest_codes(prices, weights)[:3]:
                self.check_book(prices, weights, code, range(1, 25), least_by_trial)

    def test_many_things(self):
        began = time.monotonic()
        for prices, weights in some_books(104, 1, (6, 6), (24, 24), MOST) + some_books(105, 2, (2, 3), (10, 14), 50):
            code = numbered(prices, weights, 0)
            self.check_book(prices, weights, code, (), lambda one, other: cheapest_kept(one, other)[0], 5)
        self.assertLess(time.monotonic() - began, 90)

    def test_some(self):
        # Where the second price is p, the two codes cost 4 + 3 * p and 7 + 2 * p.
        self.assertEqual(price_stretch((1, 2), (3, 1, 1), ((0,), (1, 0), (1, 1)), 1), (1, 3))
        self.assertEqual(price_stretch((1, 3), (3, 1, 1), ((0,), (1, 0), (1, 1)), 1), (1, 3))
        self.assertEqual(price_stretch((1, 3), (3, 1, 1), ((0, 0), (0, 1), (1,)), 1), (3, MOST))
        self.assertEqual(price_stretch((1, 4), (3, 1, 1), ((0, 0), (0, 1), (1,)), 1), (3, MOST))
        self.assertEqual(weight_stretch((1, 1), (3, 1, 1), ((0,), (1, 0), (1, 1)), 0), (1, MOST))
        self.assertEqual(weight_stretch((1, 1), (3, 1, 1), ((0,), (1, 0), (1, 1)), 2), (1, 3))

    def test_one_thing(self):
        for weight in (1, 7, MOST):
            self.assertEqual(price_stretch((1, 2), (weight,), ((),), 1), (1, MOST))
            self.assertEqual(weight_stretch((1, 2), (weight,), ((),), 0), (1, MOST))
            self.assertEqual(price_beyond((1, 2), (weight,), ((),), 0), (None, None))
            self.assertEqual(weight_beyond((1, 2), (weight,), ((),), 0), (None, None))

    def test_two_things_and_two_letters_stay(self):
        for prices in ((1, 1), (MOST, 1), (1, MOST)):
            self.assertEqual(price_stretch(prices, (5, 6), ((0,), (1,)), 0), (1, MOST))
            self.assertEqual(price_beyond(prices, (5, 6), ((0,), (1,)), 0), (None, None))
            self.assertEqual(weight_stretch(prices, (5, 6), ((0,), (1,)), 1), (1, MOST))

    def test_a_stretch_of_one_number(self):
        self.assertEqual(price_stretch((1, 1, 1), (1, 1), ((0,), (1,)), 0), (1, 1))
        self.assertEqual(price_beyond((1, 1, 1), (1, 1), ((0,), (1,)), 0), (None, ((1,), (2,))))
        self.assertEqual(price_stretch((5, 5, 5), (1, 1), ((0,), (1,)), 0), (1, 5))
        self.assertEqual(price_stretch((5, 5, 5), (1, 1), ((0,), (1,)), 2), (5, MOST))
        self.assertEqual(price_stretch((MOST, MOST, MOST), (1, 1), ((0,), (1,)), 2), (MOST, MOST))
        self.assertIsNone(price_beyond((MOST, MOST, MOST), (1, 1), ((0,), (1,)), 2)[1])
        self.assertIsNotNone(price_beyond((MOST, MOST, MOST), (1, 1), ((0,), (1,)), 2)[0])

    def test_ends_one_ahead_of_the_least_and_the_greatest(self):
        self.assertEqual(price_stretch((1, 2, 2), (1, 1), ((0,), (1,)), 2), (2, MOST))
        self.assertEqual(price_beyond((1, 2, 2), (1, 1), ((0,), (1,)), 2), (((0,), (2,)), None))
        self.assertEqual(price_stretch((1, 7, MOST - 1), (1, 1), ((0,), (1,)), 1), (1, MOST - 1))
        self.assertEqual(price_beyond((1, 7, MOST - 1), (1, 1), ((0,), (1,)), 1), (None, ((0,), (2,))))

    def test_numbers_near_the_greatest(self):
        for prices, weights in (
            ((MOST, MOST - 1), (MOST, MOST - 1, MOST - 2)), ((MOST - 1, MOST, MOST - 2), (MOST, MOST, MOST, 1)),
            ((MOST, 1, MOST), (MOST, 1, MOST - 1)),
        ):
            for code in cheapest_codes(prices, weights):
                self.check_book(prices, weights, code, range(MOST - 9, MOST + 1), least_by_trial)

    def test_the_same_question_has_the_same_answer(self):
        first = price_beyond((1, 3), (3, 1, 1), ((0, 0), (0, 1), (1,)), 1)
        price_beyond((1, 3), (1, 2, 1), cheapest_kept((1, 3), (1, 2, 1))[1], 1)
        self.assertEqual(price_beyond((1, 3), (3, 1, 1), ((0, 0), (0, 1), (1,)), 1), first)


if __name__ == "__main__":
    unittest.main()
