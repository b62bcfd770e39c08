"""Points [0.2], [0.3], [0.4], [1.1] to [1.4] and the interface's section on lettertoll/words.py."""

import itertools
import unittest

from lettertoll.errors import BadPrices, BadWeights, BadWord, TooMany
from lettertoll.words import begins, made_prices, made_weights, shared, word_price, words_many

MOST = 1000000000000000000000000000000

NOT_AMOUNTS = (0, -1, -5, -MOST, MOST + 1, MOST * MOST)

# Words of any numbers, short enough that all pairs can be asked.
SOME_WORDS = [
    word
    for size in range(4)
    for word in itertools.product((0, 1, -7), repeat=size)
]


class TestMade(unittest.TestCase):
    def check_counts(self, make, refusal, fewest, most):
        for kind in (list, tuple):
            for many in range(0, most + 3):
                numbers = kind(range(1, many + 1))
                if fewest <= many <= most:
                    self.assertEqual(make(numbers), tuple(range(1, many + 1)))
                else:
                    self.assertRaises(refusal, make, numbers)
            self.assertRaises(refusal, make, kind([1] * 400))

    def test_two_to_six_prices(self):
        self.check_counts(made_prices, BadPrices, 2, 6)

    def test_one_to_twenty_four_weights(self):
        self.check_counts(made_weights, BadWeights, 1, 24)

    def check_numbers(self, make, refusal, many):
        for kind in (list, tuple):
            for at in range(many):
                for number in (1, 2, MOST - 1, MOST):
                    numbers = [5] * many
                    numbers[at] = number
                    self.assertEqual(make(kind(numbers)), tuple(numbers))
                for number in NOT_AMOUNTS:
                    numbers = [5] * many
                    numbers[at] = number
                    self.assertRaises(refusal, make, kind(numbers))

    def test_prices_from_1_to_10_to_the_30(self):
        for many in (2, 3, 6):
            self.check_numbers(made_prices, BadPrices, many)

    def test_weights_from_1_to_10_to_the_30(self):
        for many in (1, 2, 24):
            self.check_numbers(made_weights, BadWeights, many)

    def test_all_of_the_greatest(self):
        self.assertEqual(made_prices([MOST] * 6), (MOST,) * 6)
        self.assertEqual(made_weights([MOST] * 24), (MOST,) * 24)

    def test_the_order_stays_and_so_do_numbers_told_twice(self):
        self.assertEqual(made_prices([3, 1, 3]), (3, 1, 3))
        self.assertEqual(made_weights([9, 1, 9, 2]), (9, 1, 9, 2))

    def test_tuples_are_told(self):
        for make in (made_prices, made_weights):
            self.assertIs(make([1, 2]).__class__, tuple)
            self.assertIs(make((1, 2)).__class__, tuple)

    def test_what_is_handed_in_is_neither_changed_nor_kept(self):
        for make in (made_prices, made_weights):
            numbers = [4, 2, 3]
            told = make(numbers)
            self.assertEqual(numbers, [4, 2, 3])
            numbers[0] = 77
            numbers.append(1)
            self.assertEqual(told, (4, 2, 3))
            self.assertEqual(make([4, 2, 3]), (4, 2, 3))

    def test_a_refused_list_is_not_changed(self):
        for make, refusal in ((made_prices, BadPrices), (made_weights, BadWeights)):
            numbers = [4, 0, MOST + 1]
            self.assertRaises(refusal, make, numbers)
            self.assertEqual(numbers, [4, 0, MOST + 1])


class TestWordPrice(unittest.TestCase):
    def test_the_empty_word_costs_nothing(self):
        self.assertEqual(word_price((1, 2), ()), 0)
        self.assertEqual(word_price((MOST,) * 6, ()), 0)

    def test_letters_count_as_often_as_they_stand_there(self):
        self.assertEqual(word_price((3, 10), (0,)), 3)
        self.assertEqual(word_price((3, 10), (1,)), 10)
        self.assertEqual(word_price((3, 10), (0, 1, 0, 0)), 19)
        self.assertEqual(word_price((1, 10, 100, 1000, 10000, 100000), (5, 4, 3, 2, 1, 0, 5)), 211111)

    def test_letters_of_one_price(self):
        self.assertEqual(word_price((4, 4, 4), (0, 1, 2, 2)), 16)

    def test_words_of_sixty_letters(self):
        self.assertEqual(word_price((1, 2), (1,) * 60), 120)
        self.assertEqual(word_price((MOST, MOST - 1), (0, 1) * 30), 60 * MOST - 30)

    def test_numbers_that_are_no_letters(self):
        for prices in ((1, 2), (1, 2, 3), (1, 2, 3, 4, 5, 6)):
            letters = len(prices)
            for number in (-1, -letters, -letters - 1, letters, letters + 1, MOST, -MOST, 10 ** 60):
                for word in ((number,), (0, number), (number, 0), (0, 1, number, 1), (0,) * 59 + (number,)):
                    self.assertRaises(BadWord, word_price, prices, word)

    def test_the_last_letter_is_one(self):
        self.assertEqual(word_price((1, 2, 3, 4, 5, 6), (5,)), 6)
        self.assertEqual(word_price((1, 2), (1,)), 2)


class TestBegins(unittest.TestCase):
    def test_words_that_begin_others(self):
        for one, other in (((), ()), ((), (3,)), ((3,), (3,)), ((3,), (3, 4)), ((3, 4), (3, 4, 3, 4))):
            self.assertIs(begins(one, other), True)

    def test_words_that_do_not(self):
        for one, other in (((3,), ()), ((3, 4), (3,)), ((4,), (3, 4)), ((3, 4), (3, 5, 4)), ((0,), (1,))):
            self.assertIs(begins(one, other), False)

    def test_each_word_begins_itself_and_the_empty_word_all(self):
        for word in SOME_WORDS:
            self.assertIs(begins(word, word), True)
            self.assertIs(begins((), word), True)
            self.assertIs(begins(word, ()), word == ())

    def test_all_pairs_letter_by_letter(self):
        for one, other in itertools.product(SOME_WORDS, repeat=2):
            asked = len(one) <= len(other) and all(one[k] == other[k] for k in range(len(one)))
            self.assertIs(begins(one, other), asked, (one, other))

    def test_any_whole_numbers_and_sixty_letters(self):
        long = (-MOST, 10 ** 40) * 30
        self.assertIs(begins(long, long), True)
        self.assertIs(begins(long[:59], long), True)
        self.assertIs(begins(long, long[:59]), False)
        self.assertIs(begins(long[:59] + (0,), long), False)


class TestShared(unittest.TestCase):
    def test_some(self):
        self.assertEqual(shared((0, 1, 2), (0, 1, 3)), (0, 1))
        self.assertEqual(shared((0, 1), (0, 1, 3)), (0, 1))
        self.assertEqual(shared((0, 1, 3), (0, 1)), (0, 1))
        self.assertEqual(shared((1, 5), (0, 5)), ())
        self.assertEqual(shared((0, 1, 5), (0, 2, 5)), (0,))
        self.assertEqual(shared((), (4, 4)), ())
        self.assertEqual(shared((4, 4), ()), ())
        self.assertEqual(shared((), ()), ())
        self.assertEqual(shared((4, 4), (4, 4)), (4, 4))

    def test_a_word_is_told(self):
        self.assertIs(shared((1, 2), (1, 3)).__class__, tuple)
        self.assertIs(shared((), (1,)).__class__, tuple)

    def test_all_pairs_are_told_the_longest_that_begins_both(self):
        for one, other in itertools.product(SOME_WORDS, repeat=2):
            both = [word for word in SOME_WORDS if begins(word, one) and begins(word, other)]
            self.assertEqual(shared(one, other), max(both, key=len), (one, other))

    def test_any_whole_numbers_and_sixty_letters(self):
        long = (-MOST, 10 ** 40) * 30
        self.assertEqual(shared(long, long), long)
        self.assertEqual(shared(long, long[:59] + (-1,)), long[:59])


def words_of_price(prices, price):
    """All words of just this price, by trying every word that is short enough."""
    longest = price // min(prices)
    return [
        word
        for size in range(longest + 1)
        for word in itertools.product(range(len(prices)), repeat=size)
        if sum(prices[letter] for letter in word) == price
    ]


class TestWordsMany(unittest.TestCase):
    def test_the_empty_word_alone_has_the_price_0(self):
        for prices in ((1, 1), (1, 2, 3), (MOST, MOST)):
            self.assertEqual(words_many(prices, 0), 1)

    def test_none_below_0(self):
        for price in (-1, -2, -3000, -3001, -MOST):
            self.assertEqual(words_many((1, 2), price), 0)
            self.assertEqual(words_many((MOST, 1), price), 0)

    def test_as_many_as_trying_all_words_finds(self):
        for prices in ((1, 1), (1, 2), (2, 1), (2, 3), (3, 3), (2, 2, 2), (2, 3, 4), (3, 1, 4), (4, 4, 5, 6, 7, 9)):
            for price in range(0, 9):
                self.assertEqual(words_many(prices, price), len(words_of_price(prices, price)), (prices, price))

    def test_letters_of_one_price_are_counted_each(self):
        for letters in range(2, 7):
            self.assertEqual(words_many((1,) * letters, 5), letters ** 5)
            self.assertEqual(words_many((3,) * letters, 6), letters ** 2)
            self.assertEqual(words_many((3,) * letters, 7), 0)

    def test_up_to_3000(self):
        self.assertEqual(words_many((1, 1), 2999), 2 ** 2999)
        self.assertEqual(words_many((1, 1), 3000), 2 ** 3000)
        self.assertEqual(words_many((1,) * 6, 3000), 6 ** 3000)
        self.assertEqual(words_many((3000, 2999), 3000), 1)
        self.assertEqual(words_many((3000, 3000, 1), 3000), 3)
        self.assertEqual(words_many((3001, 1500), 3000), 1)

    def test_refused_above(self):
        for price in (3001, 3002, 10 ** 6, MOST, 10 ** 60):
            self.assertRaises(TooMany, words_many, (1, 2), price)
            self.assertRaises(TooMany, words_many, (MOST, MOST), price)

    def test_prices_of_letters_near_the_greatest(self):
        for price in (1, 2, 2999, 3000):
            self.assertEqual(words_many((MOST, MOST - 1), price), 0)
            self.assertEqual(words_many((MOST, 1), price), 1)
            self.assertEqual(words_many((1, MOST, MOST - 1, 1), price), 2 ** price)

    def test_the_same_question_has_the_same_answer(self):
        first = words_many((1, 2), 40)
        words_many((1, 1, 1), 50)
        self.assertRaises(TooMany, words_many, (1, 2), 3001)
        self.assertEqual(words_many((1, 2), 40), first)


if __name__ == "__main__":
    unittest.main()
