"""Points [4.1] to [4.4], [4.6], [0.4] and the interface's section on lettertoll/kept.py."""

import time
import unittest

from lettertoll.codes import cost, is_kept, lone_knots
from lettertoll.kept import cheapest_kept, least_floors
from tests.by_trial import MOST, bound_of, cost_of, kept_codes, lean_codes, least_cost, some_books, stretches

FEW = some_books(41, 60, (2, 3), (1, 5), 9) + some_books(42, 20, (2, 6), (1, 4), MOST) + [
    ((1, 1), (1,)), ((1, 1), (1, 1, 1, 1, 1, 1)), ((3, 1), (1, 9, 1)), ((MOST, MOST), (MOST, MOST, MOST)),
    ((MOST, 1), (1, MOST, 1, MOST)), ((1, MOST, 1), (MOST, 1, 1, MOST)), ((5, 1, 5), (1, 1, 1)),
]


def least_of_kept(prices, weights, longest):
    return min(cost_of(prices, weights, code) for code in kept_codes(len(prices), len(weights), longest))


def floor_of(floors, first, end):
    return floors[first][end - first - 1]


class TestLeastFloors(unittest.TestCase):
    def test_some(self):
        self.assertEqual(least_floors((1, 3), (7,)), [[0]])
        self.assertEqual(least_floors((1, 3), (5, 2)), [[0, 11], [0]])
        self.assertEqual(least_floors((1, 3), (7, 2, 2)), [[0, 13, 27], [0, 8], [0]])

    def test_a_row_for_each_thing_and_a_number_for_each_end(self):
        for things in range(1, 25):
            floors = least_floors((2, 1, 4), tuple(range(1, things + 1)))
            self.assertIs(floors.__class__, list)
            self.assertEqual({row.__class__ for row in floors}, {list})
            self.assertEqual([len(row) for row in floors], list(range(things, 0, -1)))
            self.assertEqual([row[0] for row in floors], [0] * things)

    def test_each_is_its_bound(self):
        for prices, weights in FEW:
            floors = least_floors(prices, weights)
            for first, end in stretches(len(weights)):
                self.assertEqual(floor_of(floors, first, end), bound_of(prices, weights, floors, first, end))

    def test_each_is_the_cost_of_the_cheapest_kept_code_of_its_stretch(self):
        for prices, weights in FEW:
            floors = least_floors(prices, weights)
            for first, end in stretches(len(weights)):
                costs = [cost_of(prices, weights[first:end], code) for code in lean_codes(len(prices), end - first)]
                self.assertEqual(floor_of(floors, first, end), min(costs))

    def test_no_kept_code_of_whatever_words_costs_less(self):
        for prices, weights in FEW:
            if len(prices) == 2 and len(weights) <= 4 or len(prices) == 3 and len(weights) <= 3:
                floors = least_floors(prices, weights)
                for first, end in stretches(len(weights)):
                    least = least_of_kept(prices, weights[first:end], 4 if len(prices) == 2 else 3)
                    self.assertEqual(floor_of(floors, first, end), least)

    def test_each_is_as_the_floors_of_its_things_alone_tell(self):
        for prices, weights in some_books(43, 4, (2, 6), (8, 12), MOST):
            floors = least_floors(prices, weights)
            for first, end in stretches(len(weights)):
                self.assertEqual(floor_of(floors, first, end), least_floors(prices, weights[first:end])[0][-1])
                self.assertEqual(floor_of(floors, first, end), least_cost(prices, weights[first:end]))

    def test_a_told_list_that_is_changed_does_not_change_the_next_answer(self):
        first = least_floors((1, 3), (7, 2, 2))
        first[0][2] = 99
        first[1].append(7)
        first.pop()
        self.assertEqual(least_floors((1, 3), (7, 2, 2)), [[0, 13, 27], [0, 8], [0]])
        kept = least_floors((1, 3), (7, 2, 2))
        least_floors((2, 2), (1, 1, 1))
        self.assertEqual(kept, [[0, 13, 27], [0, 8], [0]])


class TestCheapestKept(unittest.TestCase):
    def check(self, prices, weights, least):
        told = cheapest_kept(prices, weights)
        self.assertIs(told.__class__, tuple)
        self.assertEqual(len(told), 3)
        self.assertEqual(told[0], least)
        self.assertEqual(told[2], least_floors(prices, weights))
        self.assertEqual(told[2][0][-1], least)
        self.assertIs(told[1].__class__, tuple)
        self.assertEqual({word.__class__ for word in told[1]}, {tuple})
        self.assertEqual(len(told[1]), len(weights))
        self.assertTrue(is_kept(told[1]))
        self.assertEqual(lone_knots(told[1]), [])
        self.assertEqual(cost(prices, weights, told[1]), least)

    def test_one_thing(self):
        for prices in ((1, 1), (MOST, 5, 7), (1, 2, 3, 4, 5, 6)):
            for weight in (1, 8, MOST):
                self.assertEqual(cheapest_kept(prices, (weight,)), (0, ((),), [[0]]))

    def test_some(self):
        self.assertEqual(cheapest_kept((1, 3), (5, 2)), (11, ((0,), (1,)), [[0, 11], [0]]))
        self.assertEqual(cheapest_kept((3, 1), (5, 2)), (17, ((0,), (1,)), [[0, 17], [0]]))
        self.assertEqual(cheapest_kept((1, 9, 1), (5, 2))[:2], (7, ((0,), (2,))))
        self.assertEqual(cheapest_kept((1, 9, 1), (5, 2, 5))[0], 19)

    def test_few_things_by_trial(self):
        for prices, weights in FEW:
            costs = [cost_of(prices, weights, code) for code in lean_codes(len(prices), len(weights))]
            self.check(prices, weights, min(costs))

    def test_many_things_in_a_short_time(self):
        books = some_books(44, 3, (6, 6), (24, 24), MOST) + some_books(45, 3, (2, 4), (20, 24), 50)
        books += [((1,) * 6, (1,) * 24), ((1, MOST), (1,) * 24), ((MOST,) * 6, (MOST,) * 24), ((MOST, 1), (MOST,) * 24)]
        began = time.monotonic()
        told = [cheapest_kept(prices, weights)[0] for prices, weights in books]
        self.assertLess(time.monotonic() - began, 20)
        for (prices, weights), least in zip(books, told):
            self.assertEqual(least, least_cost(prices, weights))
            self.check(prices, weights, least)

    def test_a_deep_code(self):
        # Each thing weighs more than all behind it together, by far.
        weights = tuple(10 ** (29 - thing) for thing in range(24))
        self.check((1, 1), weights, least_cost((1, 1), weights))
        self.assertEqual(len(cheapest_kept((1, 1), weights)[1][-1]), 23)

    def test_read_from_behind(self):
        for prices, weights in FEW + some_books(46, 5, (2, 6), (10, 24), MOST):
            self.assertEqual(cheapest_kept(prices, weights)[0], cheapest_kept(prices[::-1], weights[::-1])[0])

    def test_prices_or_weights_taken_so_many_times(self):
        for prices, weights in some_books(47, 15, (2, 6), (1, 12), 10 ** 9):
            least = cheapest_kept(prices, weights)[0]
            for times in (2, 7, 10 ** 20):
                more = tuple(times * price for price in prices)
                self.assertEqual(cheapest_kept(more, weights)[0], times * least)
                more = tuple(times * weight for weight in weights)
                self.assertEqual(cheapest_kept(prices, more)[0], times * least)

    def test_told_floors_that_are_changed_do_not_change_the_next_answer(self):
        first = cheapest_kept((1, 3), (7, 2, 2))
        first[2][0][2] = 0
        first[2].clear()
        self.assertEqual(cheapest_kept((1, 3), (7, 2, 2))[0], 27)
        self.assertEqual(cheapest_kept((1, 3), (7, 2, 2))[2], [[0, 13, 27], [0, 8], [0]])

    def test_the_same_question_has_the_same_answer(self):
        first = cheapest_kept((1, 1, 1), (1, 1, 1, 1, 1))
        cheapest_kept((1, 2), (3, 4, 5))
        self.assertEqual(cheapest_kept((1, 1, 1), (1, 1, 1, 1, 1)), first)


if __name__ == "__main__":
    unittest.main()
