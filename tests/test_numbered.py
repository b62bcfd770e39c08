"""Points [6.1], [6.2], [6.3], [0.4] and the interface's section on lettertoll/numbered.py."""

import random
import time
import unittest

from lettertoll.codes import cost, is_lean
from lettertoll.counted import many_cheapest, many_with
from lettertoll.errors import BadNumber, BadWord, NotCheapest, Unlike
from lettertoll.kept import cheapest_kept
from lettertoll.numbered import number_of, numbered, sure_words
from lettertoll.trees import spelling_of
from tests.by_trial import MOST, cheapest_codes, kept_codes, some_books

# Small prices and weights have many cheapest codes.
FEW = some_books(91, 40, (2, 3), (1, 6), 3) + some_books(92, 10, (2, 6), (1, 4), MOST) + [
    ((1, 1), (1,)), ((1, 1), (1,) * 7), ((1,) * 6, (1,) * 4), ((2, 2, 2), (3,) * 5), ((1, 2, 1), (1, 1, 1, 1)),
    ((MOST, MOST), (MOST,) * 5), ((MOST, MOST, 1), (1, MOST, 1, MOST)), ((1, 1, 1, 1), (1,) * 5),
]

MANY = [
    ((1,) * 6, (1,) * 24), ((1, 1), (1,) * 24), ((1, 1, 1), (1,) * 23), ((1, 2), (1,) * 22), ((1, 1, 2, 2), (1,) * 24),
    ((1, 1, 3, 3, 4, 4), (1,) * 24), ((2, 1, 2, 1, 2), (3,) * 20), ((MOST,) * 5, (MOST,) * 24), ((1, 2, 3), (1, 2, 1, 2, 1, 2, 1, 2, 1, 2, 1)),
]


class TestNumbered(unittest.TestCase):
    def test_some(self):
        self.assertEqual(numbered((1, 1), (1, 1, 1), 0), ((0,), (1, 0), (1, 1)))
        self.assertEqual(numbered((1, 1), (1, 1, 1), 1), ((0, 0), (0, 1), (1,)))
        told = [numbered((1, 1, 1), (1, 1), number) for number in range(3)]
        self.assertEqual(told, [((0,), (1,)), ((0,), (2,)), ((1,), (2,))])
        self.assertEqual(numbered((1, 2), (7,), 0), ((),))

    def test_few_things_by_trial_in_the_order_of_their_spellings(self):
        for prices, weights in FEW:
            codes = cheapest_codes(prices, weights)
            self.assertEqual([numbered(prices, weights, number) for number in range(len(codes))], codes)
            self.assertEqual([number_of(prices, weights, code) for code in codes], list(range(len(codes))))

    def test_numbers_that_there_are_not(self):
        for prices, weights in FEW[-12:] + MANY[:3]:
            many = many_cheapest(prices, weights)
            numbered(prices, weights, many - 1)
            for number in (-1, -many, many, many + 1, MOST, -MOST, MOST ** 3):
                self.assertRaises(BadNumber, numbered, prices, weights, number)

    def test_many_things_and_very_many_codes(self):
        chance = random.Random(93)
        began = time.monotonic()
        for prices, weights in MANY:
            many = many_cheapest(prices, weights)
            least = cheapest_kept(prices, weights)[0]
            numbers = sorted({0, many - 1} | {chance.randrange(many) for again in range(6)})
            spellings = []
            for number in numbers:
                code = numbered(prices, weights, number)
                self.assertTrue(is_lean(code))
                self.assertEqual(cost(prices, weights, code), least)
                self.assertEqual(number_of(prices, weights, code), number)
                spellings.append(spelling_of(code))
            self.assertEqual(spellings, sorted(spellings))
            self.assertRaises(BadNumber, numbered, prices, weights, many)
        self.assertLess(time.monotonic() - began, 40)

    def test_all_of_some_hundred(self):
        for prices, weights in (((1, 2), (1,) * 24), ((1, 1), (1,) * 13), ((1,) * 4, (1,) * 8)):
            many = many_cheapest(prices, weights)
            self.assertGreater(many, 30)
            codes = [numbered(prices, weights, number) for number in range(many)]
            spellings = [spelling_of(code) for code in codes]
            self.assertEqual(spellings, sorted(spellings))
            self.assertEqual(len(set(codes)), many)
            least = cheapest_kept(prices, weights)[0]
            self.assertEqual({cost(prices, weights, code) for code in codes}, {least})

    def test_kinds(self):
        code = numbered((1, 1), (1,) * 5, 2)
        self.assertIs(code.__class__, tuple)
        self.assertEqual({word.__class__ for word in code}, {tuple})

    def test_the_deepest_code(self):
        weights = tuple(10 ** (29 - thing) for thing in range(24))
        code = tuple((1,) * many + (0,) for many in range(23)) + ((1,) * 23,)
        self.assertEqual(numbered((1, 1), weights, 0), code)
        self.assertEqual(number_of((1, 1), weights, code), 0)
        self.assertEqual(sure_words((1, 1), weights), list(code))


class TestNumberOf(unittest.TestCase):
    def test_codes_that_are_no_cheapest_ones(self):
        for prices, weights in (((1, 1), (1, 1, 1)), ((1, 2), (2, 1, 1)), ((1, 1, 2), (1, 2)), ((1, 2), (1,))):
            codes = cheapest_codes(prices, weights)
            for code in kept_codes(len(prices), len(weights), 3):
                if code in codes:
                    self.assertEqual(number_of(prices, weights, code), codes.index(code))
                else:
                    self.assertRaises(NotCheapest, number_of, prices, weights, code)

    def test_codes_that_are_not_kept(self):
        for prices, weights, code in (
            ((1, 1), (1, 1), ((1,), (0,))),
            ((1, 1), (1, 1), ((0,), (0,))),
            ((1, 1), (1, 1), ((), ())),
            ((1, 1), (1, 1, 1), ((1, 0), (1, 1), (0,))),
            ((1, 1), (1, 1, 1), ((0,), (0, 1), (1, 1))),
        ):
            self.assertRaises(NotCheapest, number_of, prices, weights, code)

    def test_unlike_counts(self):
        for code in (((),), ((0,), (1,)), ((0,), (1, 0), (1, 1, 0), (1, 1, 1)), tuple((1,) * many + (0,) for many in range(24))):
            self.assertRaises(Unlike, number_of, (1, 1), (1, 1, 1), code)

    def test_numbers_that_are_no_letters(self):
        for number in (-1, -2, 2, 3, MOST, -MOST):
            for code in (((0,), (1, 0), (1, number)), ((0,), (1, 0), (number,)), ((number,), (1, 0), (1, 1))):
                self.assertRaises(BadWord, number_of, (1, 1), (1, 1, 1), code)

    def test_unlike_ahead_of_bad_word_ahead_of_not_cheapest(self):
        self.assertRaises(Unlike, number_of, (1, 1), (1, 1, 1), ((0,), (2,)))
        self.assertRaises(Unlike, number_of, (1, 1), (1, 1, 1), ((0,), (0,)))
        self.assertRaises(BadWord, number_of, (1, 1), (1, 1, 1), ((0,), (0,), (2,)))
        self.assertRaises(BadWord, number_of, (1, 1), (1, 1, 1), ((-1,), (0, 0, 0), (1,)))
        self.assertRaises(NotCheapest, number_of, (1, 1), (1, 1, 1), ((0,), (0,), (1,)))

    def test_one_thing(self):
        self.assertEqual(number_of((1, 2), (7,), ((),)), 0)
        self.assertRaises(NotCheapest, number_of, (1, 2), (7,), ((0,),))


class TestSureWords(unittest.TestCase):
    def test_some(self):
        self.assertEqual(sure_words((1, 2), (7,)), [()])
        self.assertEqual(sure_words((1, 1), (1, 1)), [(0,), (1,)])
        self.assertEqual(sure_words((1, 1), (1, 1, 1)), [None, None, None])
        self.assertEqual(sure_words((1, 1, 9), (1, 1)), [(0,), (1,)])
        self.assertEqual(sure_words((1, 2, 2), (1, 1)), [(0,), None])

    def test_few_things_by_trial(self):
        some, none = 0, 0
        for prices, weights in FEW + some_books(94, 20, (3, 3), (5, 6), 5):
            codes = cheapest_codes(prices, weights)
            asked = []
            for thing in range(len(weights)):
                words = {code[thing] for code in codes}
                asked.append(words.pop() if len(words) == 1 else None)
            told = sure_words(prices, weights)
            self.assertEqual(told, asked)
            self.assertIs(told.__class__, list)
            if len(codes) > 1:
                some += sum(word is not None for word in told)
                none += told.count(None)
        self.assertGreater(some, 5)
        self.assertGreater(none, 20)

    def test_many_things(self):
        began = time.monotonic()
        for prices, weights in MANY + some_books(95, 2, (6, 6), (24, 24), MOST) + some_books(96, 4, (2, 4), (20, 24), 6):
            told = sure_words(prices, weights)
            self.assertEqual(len(told), len(weights))
            many = many_cheapest(prices, weights)
            code = numbered(prices, weights, many - 1)
            for thing in (0, len(weights) // 2, len(weights) - 1):
                sure = many_with(prices, weights, thing, code[thing]) == many
                self.assertEqual(told[thing], code[thing] if sure else None)
        self.assertLess(time.monotonic() - began, 40)

    def test_a_told_list_that_is_changed_does_not_change_the_next_answer(self):
        told = sure_words((1, 2, 2), (1, 1))
        told[0] = (7,)
        told.append(None)
        self.assertEqual(sure_words((1, 2, 2), (1, 1)), [(0,), None])


if __name__ == "__main__":
    unittest.main()
