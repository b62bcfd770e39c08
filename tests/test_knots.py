"""Points [9.1], [9.2], [0.4] and the interface's section on lettertoll/knots.py."""

import unittest

from lettertoll.codes import clash
from lettertoll.errors import BadNumber, TooMany
from lettertoll.knots import cheapest_knots, ends_of
from tests.by_trial import MOST, price_of, some_books, words_up_to

PRICES = [(1, 1), (1, 2), (2, 1), (3, 5), (1, 1, 1), (2, 3, 3), (5, 4, 3, 2), (1, 1, 2, 2, 3, 3), (7, 7, 7, 7, 7, 7)]
PRICES += [prices for prices, weights in some_books(131, 12, (2, 6), (1, 1), 9)]
FAR = [(1, MOST), (MOST, 1), (MOST, MOST), (MOST, MOST - 1, MOST), (1, 2, MOST), (MOST, 1, 1, MOST - 1), (MOST,) * 6]


def row_of(prices, words):
    return sorted((price_of(prices, word), word) for word in words)


def knots_by_trial(prices, many):
    """The first of all words, as long as words that are not gone through are all dearer."""
    longest = 1
    while True:
        row = row_of(prices, words_up_to(len(prices), longest))
        if len(row) >= many and (many == 0 or row[many - 1][0] < (longest + 1) * min(prices)):
            return row[:many]
        longest += 1


def ends_by_words(prices, knots):
    if not knots:
        return [(0, ())]
    words = {word for price, word in knots}
    longer = {word + (letter,) for word in words for letter in range(len(prices))}
    return row_of(prices, longer - words)


class TestCheapestKnots(unittest.TestCase):
    def test_some(self):
        self.assertEqual(cheapest_knots((1, 2), 0), [])
        self.assertEqual(cheapest_knots((1, 2), 1), [(0, ())])
        self.assertEqual(cheapest_knots((1, 2), 4), [(0, ()), (1, (0,)), (2, (0, 0)), (2, (1,))])
        self.assertEqual(cheapest_knots((2, 1), 4), [(0, ()), (1, (1,)), (2, (0,)), (2, (1, 1))])

    def test_few_knots_by_trial(self):
        for prices in PRICES:
            for many in range(13):
                self.assertEqual(cheapest_knots(prices, many), knots_by_trial(prices, many))

    def test_sixty_knots(self):
        for prices in ((1, 1), (1, 1, 1), (4, 4, 4, 4), (1,) * 6, (2, 3, 2)):
            self.assertEqual(cheapest_knots(prices, 60), knots_by_trial(prices, 60))

    def test_fewer_knots_are_the_first_of_more(self):
        for prices in PRICES + FAR:
            row = cheapest_knots(prices, 60)
            self.assertEqual(len(row), 60)
            for many in range(61):
                self.assertEqual(cheapest_knots(prices, many), row[:many])

    def test_beginnings_are_among_them_and_all_stand_in_their_row(self):
        for prices in PRICES + FAR:
            row = cheapest_knots(prices, 60)
            self.assertEqual(row, sorted(row))
            words = [word for price, word in row]
            self.assertEqual(len(set(words)), 60)
            for price, word in row:
                self.assertEqual(price, price_of(prices, word))
                self.assertTrue(word == () or word[:-1] in words)

    def test_prices_far_apart(self):
        self.assertEqual(cheapest_knots((1, MOST), 60), [(many, (0,) * many) for many in range(60)])
        self.assertEqual(cheapest_knots((MOST, 1), 60), [(many, (1,) * many) for many in range(60)])
        self.assertEqual(cheapest_knots((MOST, MOST - 1), 4), [
            (0, ()), (MOST - 1, (1,)), (MOST, (0,)), (2 * MOST - 2, (1, 1)),
        ])

    def test_kinds(self):
        told = cheapest_knots((1, 2), 5)
        self.assertIs(told.__class__, list)
        self.assertEqual({pair.__class__ for pair in told}, {tuple})
        self.assertEqual({word.__class__ for price, word in told}, {tuple})

    def test_a_told_list_that_is_changed_does_not_change_the_next_answer(self):
        cheapest_knots((1, 2), 3).clear()
        self.assertEqual(cheapest_knots((1, 2), 2), [(0, ()), (1, (0,))])
        ends_of((1, 2), 0).append(7)
        self.assertEqual(ends_of((1, 2), 0), [(0, ())])


class TestEnds(unittest.TestCase):
    def test_of_no_knots_the_empty_word(self):
        for prices in PRICES + FAR:
            self.assertEqual(ends_of(prices, 0), [(0, ())])

    def test_some(self):
        self.assertEqual(ends_of((1, 2), 1), [(1, (0,)), (2, (1,))])
        self.assertEqual(ends_of((1, 2), 2), [(2, (0, 0)), (2, (1,)), (3, (0, 1))])
        self.assertEqual(ends_of((2, 1, 1), 1), [(1, (1,)), (1, (2,)), (2, (0,))])

    def test_as_the_words_of_the_point_tell(self):
        for prices in PRICES + FAR:
            for many in list(range(14)) + [59, 60]:
                told = ends_of(prices, many)
                self.assertIs(told.__class__, list)
                self.assertEqual(told, ends_by_words(prices, cheapest_knots(prices, many)))
                self.assertEqual(len(told), many * (len(prices) - 1) + 1)

    def test_none_begins_another_one(self):
        for prices in PRICES + FAR:
            for many in (1, 2, 7, 15):
                self.assertIsNone(clash(tuple(word for price, word in ends_of(prices, many))))


class TestRefusals(unittest.TestCase):
    def test_below_0_and_above_60(self):
        for ask in (cheapest_knots, ends_of):
            for many in (-1, -2, -60, -61, -MOST):
                self.assertRaises(BadNumber, ask, (1, 2), many)
            for many in (61, 62, 120, MOST, MOST * MOST):
                self.assertRaises(TooMany, ask, (1, 2), many)
            ask((1, 2), 0)
            ask((1, 2), 60)


if __name__ == "__main__":
    unittest.main()
