"""Point [9.3], with [4.4] and [8.4], [0.4] and the interface's section on lettertoll/like.py."""

import time
import unittest

from lettertoll.codes import cost, is_kept
from lettertoll.errors import BadNumber, TooMany
from lettertoll.free import free_code
from lettertoll.kept import cheapest_kept
from lettertoll.knots import ends_of
from lettertoll.like import like_code, like_sums
from tests.by_trial import MOST, kept_codes, lean_codes, price_of, some_books

PRICES = [(1, 1), (1, 2), (2, 1), (3, 5), (1, 1, 1), (2, 3, 3), (1, 5, 5), (5, 4, 3, 2), (1, 1, 2, 2, 3, 3), (7,) * 6]
PRICES += [prices for prices, weights in some_books(141, 8, (2, 6), (1, 1), 9)]
FAR = [(1, MOST), (MOST, 1), (MOST, MOST), (MOST, MOST - 1, MOST), (1, 2, MOST), (MOST, 1, 1, MOST - 1), (MOST,) * 6]


def sum_of(prices, words):
    return sum(price_of(prices, word) for word in words)


class TestLikeSums(unittest.TestCase):
    def test_some(self):
        self.assertEqual(like_sums((1, 2), 1), [(0, 0)])
        self.assertEqual(like_sums((1, 2), 2), [(1, 3)])
        self.assertEqual(like_sums((1, 2, 9), 2), [(1, 3)])
        self.assertEqual(like_sums((1, 2, 9), 3), [(1, 12), (2, 7)])
        self.assertEqual(like_sums((1, 1, 1), 4), [(2, 6), (3, 7)])

    def test_each_m_with_enough_ends_to_one_less_than_the_things(self):
        for prices in PRICES + FAR:
            for things in (1, 2, 3, 4, 5, 6, 7, 8, 13, 31, 59, 60):
                told = like_sums(prices, things)
                self.assertIs(told.__class__, list)
                self.assertEqual({pair.__class__ for pair in told}, {tuple})
                numbers = [many for many in range(things) if many * (len(prices) - 1) + 1 >= things]
                self.assertEqual([many for many, total in told], numbers)
                for many, total in told:
                    self.assertEqual(total, sum(price for price, word in ends_of(prices, many)[:things]))

    def test_two_letters_have_one_m(self):
        for things in range(1, 61):
            self.assertEqual([many for many, total in like_sums((3, 4), things)], [things - 1])

    def test_sixty_things_in_a_short_time(self):
        began = time.monotonic()
        for prices in FAR + [(1, 2, 3, 4, 5, 6)]:
            like_sums(prices, 60)
            like_code(prices, 60)
        self.assertLess(time.monotonic() - began, 20)

    def test_a_told_list_that_is_changed_does_not_change_the_next_answer(self):
        like_sums((1, 2, 9), 3).clear()
        told = like_sums((1, 2, 9), 3)
        told[0] = (9, 9)
        self.assertEqual(like_sums((1, 2, 9), 3), [(1, 12), (2, 7)])


class TestLikeCode(unittest.TestCase):
    def test_some(self):
        self.assertEqual(like_code((1, 2), 1), (0, 0, ((),)))
        self.assertEqual(like_code((1, 2), 2), (3, 1, ((0,), (1,))))
        self.assertEqual(like_code((1, 2, 9), 3), (7, 2, ((0, 0), (0, 1), (1,))))
        self.assertEqual(like_code((9, 2, 1), 2), (3, 1, ((1,), (2,))))

    def test_the_least_sum_and_the_least_m_that_has_it(self):
        even = 0
        for prices in PRICES + FAR:
            for things in list(range(1, 25)) + [41, 60]:
                sums = like_sums(prices, things)
                least = min(total for many, total in sums)
                fewest = min(many for many, total in sums if total == least)
                even += sum(total == least for many, total in sums) > 1
                told = like_code(prices, things)
                self.assertIs(told.__class__, tuple)
                self.assertEqual(told[:2], (least, fewest))
                words = [word for price, word in ends_of(prices, fewest)[:things]]
                self.assertEqual(told[2], tuple(sorted(words)))
                self.assertEqual(sum_of(prices, told[2]), least)
        self.assertGreater(even, 10)

    def test_the_code_rises_as_words_do(self):
        for prices in PRICES + FAR:
            for things in (1, 2, 3, 5, 8, 13, 24):
                self.assertTrue(is_kept(like_code(prices, things)[2]))

    def test_few_things_by_trial(self):
        for prices, most in (
            ((1, 1), 6), ((1, 2), 6), ((5, 1), 6), ((1, 9), 6), ((1, 1, 1), 5), ((1, 2, 3), 5), ((9, 1, 1), 5), ((1, 1, 2, 2), 4),
        ):
            for things in range(1, most + 1):
                sums = [sum_of(prices, code) for code in lean_codes(len(prices), things)]
                self.assertEqual(like_code(prices, things)[0], min(sums))

    def test_all_words_none_of_which_begins_another_gone_through(self):
        for prices, things, longest in (((1, 3), 3, 4), ((2, 1), 4, 3), ((1, 2, 4), 3, 3), ((5, 1, 1), 2, 2), ((1, 1), 1, 3)):
            sums = [sum_of(prices, code) for code in kept_codes(len(prices), things, longest)]
            self.assertEqual(like_code(prices, things)[0], min(sums))

    def test_as_much_as_the_cheapest_kept_code_of_one_weight(self):
        for prices in PRICES + FAR:
            for things in (1, 2, 3, 6, 11, 24):
                least, many, code = like_code(prices, things)
                for weight in (1, 7, MOST):
                    weights = (weight,) * things
                    self.assertEqual(cheapest_kept(prices, weights)[0], weight * least)
                    self.assertEqual(cost(prices, weights, code), weight * least)

    def test_as_much_as_the_cheapest_code_in_free_order(self):
        for prices in PRICES + FAR:
            for things in range(1, 8 if len(prices) == 2 else 7):
                for weight in (1, MOST):
                    self.assertEqual(free_code(prices, (weight,) * things)[0], weight * like_code(prices, things)[0])


class TestRefusals(unittest.TestCase):
    def test_below_1_and_above_60(self):
        for ask in (like_sums, like_code):
            for things in (0, -1, -2, -60, -MOST):
                self.assertRaises(BadNumber, ask, (1, 2), things)
            for things in (61, 62, 120, MOST, MOST * MOST):
                self.assertRaises(TooMany, ask, (1, 2), things)
            ask((1, 2), 1)
            ask((1, 2), 60)


if __name__ == "__main__":
    unittest.main()
