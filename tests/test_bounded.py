"""Points [5.1], [5.2], [5.3], [5.4], [0.4] and the interface's section on lettertoll/bounded.py."""

import time
import unittest

from lettertoll.bounded import cheapest_bounded, least_stairs, least_top
from lettertoll.codes import cost, is_kept
from lettertoll.errors import BadNumber
from lettertoll.kept import least_floors
from tests.by_trial import MOST, bound_on_step, cost_of, kept_codes, least_cost, some_books, stretches

NO_TOPS = (-1, -2, -24, -25, -MOST, 25, 26, 48, 10 ** 6, MOST, MOST * MOST)

FEW = some_books(61, 20, (2, 2), (1, 4), 9) + some_books(62, 20, (3, 3), (1, 3), 9) + [
    ((1, 1), (1, 1, 1, 1)), ((MOST, 1), (1, MOST, MOST)), ((MOST, MOST), (MOST, MOST, 1)), ((1, 9), (8, 4, 2, 1)),
    ((9, 1), (1, 2, 4, 8)), ((1, 1, 1), (5, 5, 5)), ((1, MOST), (MOST, 7)), ((2, 1), (5,)),
]
MORE = some_books(63, 6, (2, 4), (5, 6), 20) + [((1, 2), (32, 16, 8, 4, 2, 1))]


def least_of_bounded(prices, weights, longest):
    costs = [cost_of(prices, weights, code) for code in kept_codes(len(prices), len(weights), longest)]
    return min(costs, default=None)


class TestLeastTop(unittest.TestCase):
    def test_for_all_counts_of_letters_and_things(self):
        for letters in range(2, 7):
            for things in range(1, 25):
                asked = min(top for top in range(25) if letters ** top >= things)
                self.assertEqual(least_top(letters, things), asked)

    def test_some(self):
        told = [least_top(2, things) for things in (1, 2, 3, 4, 5, 8, 9, 16, 17, 24)]
        self.assertEqual(told, [0, 1, 2, 2, 3, 3, 4, 4, 5, 5])
        self.assertEqual([least_top(6, things) for things in (1, 2, 6, 7, 24)], [0, 1, 1, 2, 2])

    def test_a_code_is_there_just_from_it_on(self):
        for letters in (2, 3, 6):
            prices = tuple(range(1, letters + 1))
            for things in (1, 2, 3, 4, 5, 6, 7, 9, 10, 16, 17, 24):
                weights = tuple(range(1, things + 1))
                for top in range(6):
                    there = cheapest_bounded(prices, weights, top)[0] is not None
                    self.assertEqual(there, top >= least_top(letters, things))


class TestTops(unittest.TestCase):
    def test_from_0_to_24_are_taken(self):
        for top in range(25):
            self.assertEqual(len(least_stairs((1, 2), (3, 4, 5), top)), top + 1)
            self.assertEqual(len(cheapest_bounded((1, 2), (3, 4, 5), top)[2]), top + 1)

    def test_others_are_refused(self):
        for top in NO_TOPS:
            for weights in ((3,), (3, 4, 5), (1,) * 24):
                self.assertRaises(BadNumber, least_stairs, (1, 2), weights, top)
                self.assertRaises(BadNumber, cheapest_bounded, (1, 2), weights, top)


class TestLeastStairs(unittest.TestCase):
    def test_some(self):
        self.assertEqual(least_stairs((1, 3), (5, 2), 0), [[[0, None], [0]]])
        self.assertEqual(least_stairs((1, 3), (5, 2), 2), [[[0, None], [0]], [[0, 11], [0]], [[0, 11], [0]]])
        self.assertEqual(least_stairs((1, 3), (7, 2, 2), 2), [
            [[0, None, None], [0, None], [0]], [[0, 13, None], [0, 8], [0]], [[0, 13, 27], [0, 8], [0]],
        ])

    def test_one_thing(self):
        for top in (0, 1, 24):
            self.assertEqual(least_stairs((1, 3), (5,), top), [[[0]]] * (top + 1))

    def test_steps_rows_and_entries(self):
        for things in (1, 2, 7, 24):
            for top in (0, 1, 5):
                stairs = least_stairs((2, 1, 3), tuple(range(1, things + 1)), top)
                self.assertIs(stairs.__class__, list)
                self.assertEqual(len(stairs), top + 1)
                for floors in stairs:
                    self.assertIs(floors.__class__, list)
                    self.assertEqual({row.__class__ for row in floors}, {list})
                    self.assertEqual([len(row) for row in floors], list(range(things, 0, -1)))

    def test_each_floor_is_its_bound(self):
        for prices, weights in FEW + MORE:
            stairs = least_stairs(prices, weights, 6)
            for step in range(7):
                for first, end in stretches(len(weights)):
                    asked = bound_on_step(prices, weights, stairs, step, first, end)
                    self.assertEqual(stairs[step][first][end - first - 1], asked)

    def test_each_floor_is_the_least_cost_of_bounded_kept_codes(self):
        for prices, weights in FEW:
            top = 4 if len(prices) == 2 else 3
            stairs = least_stairs(prices, weights, top)
            for step in range(top + 1):
                for first, end in stretches(len(weights)):
                    asked = least_of_bounded(prices, weights[first:end], step)
                    self.assertEqual(stairs[step][first][end - first - 1], asked)

    def test_on_greater_steps_no_greater_and_at_last_the_least_floor(self):
        for prices, weights in FEW + MORE + some_books(64, 3, (2, 6), (9, 12), MOST):
            stairs = least_stairs(prices, weights, 24)
            least = least_floors(prices, weights)
            for first, end in stretches(len(weights)):
                row = [floors[first][end - first - 1] for floors in stairs]
                there = [number for number in row if number is not None]
                self.assertEqual(row, [None] * (25 - len(there)) + sorted(there, reverse=True))
                self.assertEqual(set(row[end - first - 1:]), {least[first][end - first - 1]})

    def test_a_lesser_top_has_the_first_steps_of_a_greater_one(self):
        for prices, weights in MORE:
            stairs = least_stairs(prices, weights, 9)
            for top in range(9):
                self.assertEqual(least_stairs(prices, weights, top), stairs[:top + 1])

    def test_told_stairs_that_are_changed_do_not_change_the_next_answer(self):
        first = least_stairs((1, 3), (5, 2), 3)
        first[1][0][1] = 99
        self.assertEqual([floors[0][1] for floors in first], [None, 99, 11, 11])
        first[2].clear()
        first.pop()
        self.assertEqual(least_stairs((1, 3), (5, 2), 1), [[[0, None], [0]], [[0, 11], [0]]])
        kept = least_stairs((1, 3), (5, 2), 1)
        least_stairs((2, 2), (1, 1), 1)
        self.assertEqual(kept, [[[0, None], [0]], [[0, 11], [0]]])

    def test_the_rows_of_told_stairs_are_each_a_list_of_its_own(self):
        stairs = least_stairs((1, 3), (5, 2, 6), 24)
        rows = [row for floors in stairs for row in floors]
        self.assertEqual(len({id(row) for row in rows}), 75)


class TestCheapestBounded(unittest.TestCase):
    def check(self, prices, weights, top, least):
        told = cheapest_bounded(prices, weights, top)
        self.assertIs(told.__class__, tuple)
        self.assertEqual(len(told), 3)
        self.assertEqual(told[0], least)
        self.assertEqual(told[2], least_stairs(prices, weights, top))
        self.assertEqual(told[2][top][0][-1], least)
        if least is None:
            self.assertIsNone(told[1])
            return
        self.assertIs(told[1].__class__, tuple)
        self.assertEqual({word.__class__ for word in told[1]}, {tuple})
        self.assertEqual(len(told[1]), len(weights))
        self.assertTrue(is_kept(told[1]))
        self.assertLessEqual(max(len(word) for word in told[1]), top)
        self.assertEqual(cost(prices, weights, told[1]), least)

    def test_few_things_by_trial(self):
        for prices, weights in FEW:
            for top in range(5 if len(prices) == 2 else 4):
                self.check(prices, weights, top, least_of_bounded(prices, weights, top))

    def test_more_things_by_trial(self):
        for prices, weights in (((1, 3), (1, 5, 2, 8, 1)), ((1, 2), (16, 8, 4, 2, 1)), ((1, 1), (1, 1, 9, 1, 1))):
            for top in range(5):
                self.check(prices, weights, top, least_of_bounded(prices, weights, top))

    def test_none_where_there_is_none(self):
        self.assertEqual(cheapest_bounded((1, 3), (5, 2), 0), (None, None, [[[0, None], [0]]]))
        self.check((1, 2), (1,) * 17, 4, None)
        self.check((1,) * 6, (1,) * 7, 1, None)

    def test_one_thing(self):
        for top in (0, 1, 24):
            self.assertEqual(cheapest_bounded((1, 3), (5,), top), (0, ((),), [[[0]]] * (top + 1)))

    def test_a_bound_that_costs_more(self):
        weights = (MOST, 10 ** 20, 10 ** 10, 1)
        self.assertEqual(cheapest_bounded((1, 1), weights, 2)[1], ((0, 0), (0, 1), (1, 0), (1, 1)))
        self.assertEqual(cheapest_bounded((1, 1), weights, 3)[1], ((0,), (1, 0), (1, 1, 0), (1, 1, 1)))
        self.check((1, 1), weights, 2, 2 * sum(weights))

    def test_many_things_letters_and_steps_in_a_short_time(self):
        books = some_books(65, 2, (6, 6), (24, 24), MOST) + [((1,) * 6, (1,) * 24), ((MOST, 1), (MOST,) * 24)]
        began = time.monotonic()
        told = [cheapest_bounded(prices, weights, 24)[0] for prices, weights in books]
        self.assertLess(time.monotonic() - began, 30)
        for (prices, weights), least in zip(books, told):
            self.assertEqual(least, least_cost(prices, weights))
            self.check(prices, weights, 24, least)

    def test_the_deepest_code(self):
        weights = tuple(10 ** (29 - thing) for thing in range(24))
        for top in (5, 12, 22, 23, 24):
            told = cheapest_bounded((1, 1), weights, top)
            self.assertEqual(max(len(word) for word in told[1]), min(top, 23))
        self.check((1, 1), weights, 23, least_cost((1, 1), weights))

    def test_told_stairs_that_are_changed_do_not_change_the_next_answer(self):
        first = cheapest_bounded((1, 3), (5, 2), 1)
        first[2][1][0][1] = 0
        first[2].clear()
        self.assertEqual(cheapest_bounded((1, 3), (5, 2), 1), (11, ((0,), (1,)), [[[0, None], [0]], [[0, 11], [0]]]))
        first = cheapest_bounded((1, 3), (5, 2), 0)
        first[2][0][0][1] = 0
        self.assertEqual(cheapest_bounded((1, 3), (5, 2), 0), (None, None, [[[0, None], [0]]]))


if __name__ == "__main__":
    unittest.main()
