"""Points [4.1], [4.2], [4.3], [4.5], [0.4] and the interface's section on lettertoll/keptexam.py."""

import random
import time
import unittest

from lettertoll.errors import NoThing, Unlike
from lettertoll.kept import cheapest_kept, least_floors
from lettertoll.keptexam import bound_by, first_lie, shows_kept
from tests.by_trial import MOST, bound_of, cost_of, kept_codes, lean_codes, some_books, stretches

FEW = some_books(51, 25, (2, 3), (1, 5), 9) + some_books(52, 10, (2, 6), (1, 4), MOST) + [
    ((1, 1), (1,)), ((1, 1), (1, 1, 1, 1, 1)), ((1, MOST, 1), (MOST, 1, 1, MOST)),
]


def copied(floors):
    return [list(row) for row in floors]


def with_floor(floors, first, end, number):
    turned = copied(floors)
    turned[first][end - first - 1] = number
    return turned


def some_floors(chance, things, most):
    return [[chance.randint(-most, most) for end in range(first, things)] for first in range(things)]


def lies_of(prices, weights, floors):
    return [
        (first, end)
        for first, end in stretches(len(weights))
        if floors[first][end - first - 1] > bound_of(prices, weights, floors, first, end)
    ]


def unlike_rows(floors):
    """The floors with a row or a number left out or put in."""
    found = [[], floors[:-1], floors[1:], floors + [[0]], floors + [[]], [[]] + floors]
    for at in range(len(floors)):
        for row in (floors[at][:-1], floors[at] + [0], floors[at] + [MOST, 5], []):
            found.append(floors[:at] + [row] + floors[at + 1:])
    if len(floors) > 1:
        found.append(floors[::-1])
        found.append([list(range(len(floors))) for row in floors])
    return found


class TestBoundBy(unittest.TestCase):
    def test_of_one_thing(self):
        for number in (-5, 0, 5, MOST * MOST):
            self.assertEqual(bound_by((1, 2), (7,), [[number]], 0, 1), 0)
            self.assertEqual(bound_by((1, 2), (7, 8), [[number, number], [number]], 1, 2), 0)

    def test_some(self):
        floors = [[0, 13, 27], [0, 8], [0]]
        self.assertEqual(bound_by((1, 3), (7, 2, 2), floors, 0, 2), 13)
        self.assertEqual(bound_by((1, 3), (7, 2, 2), floors, 0, 3), 27)
        self.assertEqual(bound_by((1, 3), (7, 2, 2), [[-100, 13, 27], [0, 8], [0]], 0, 3), -73)
        self.assertEqual(bound_by((1, 3), (7, 2, 2), [[0, -40, 999], [0, 8], [0]], 0, 3), 9 - 40 + 6)

    def test_its_own_floor_does_not_matter(self):
        for number in (-MOST, 0, MOST):
            self.assertEqual(bound_by((1, 3), (5, 2), [[0, number], [0]], 0, 2), 11)

    def test_over_all_ways_to_part_a_stretch(self):
        chance = random.Random(53)
        for prices, weights in FEW:
            for most in (0, 3, 40, 10 ** 40):
                floors = some_floors(chance, len(weights), most)
                handed = copied(floors)
                for first, end in stretches(len(weights)):
                    asked = bound_of(prices, weights, floors, first, end)
                    self.assertEqual(bound_by(prices, weights, handed, first, end), asked)
                self.assertEqual(handed, floors)

    def test_no_stretches(self):
        floors = [[0, 1, 2], [0, 1], [0]]
        for first, end in (
            (0, 0), (1, 1), (3, 3), (2, 1), (3, 1), (-1, 1), (-1, 0), (-3, -1), (0, 4), (2, 4), (3, 4), (-1, 3),
            (0, MOST), (-MOST, 2), (0, -1),
        ):
            self.assertRaises(NoThing, bound_by, (1, 2), (5, 5, 5), floors, first, end)

    def test_unlike_goes_ahead_of_no_thing(self):
        floors = [[0, 1, 2], [0, 1], [0]]
        for turned in unlike_rows(floors):
            handed = copied(turned)
            self.assertRaises(Unlike, bound_by, (1, 2), (5, 5, 5), handed, 0, 3)
            self.assertRaises(Unlike, bound_by, (1, 2), (5, 5, 5), handed, 0, 1)
            self.assertRaises(Unlike, bound_by, (1, 2), (5, 5, 5), handed, 3, 1)
            self.assertEqual(handed, turned)


class TestFirstLie(unittest.TestCase):
    def test_least_floors_hold(self):
        for prices, weights in FEW + some_books(54, 4, (2, 6), (10, 24), MOST):
            self.assertIsNone(first_lie(prices, weights, least_floors(prices, weights)))

    def test_lesser_floors_hold_where_they_are_lesser_by_the_same(self):
        for prices, weights in FEW:
            floors = least_floors(prices, weights)
            self.assertIsNone(first_lie(prices, weights, with_floor(floors, 0, len(weights), -MOST)))
            self.assertIsNone(first_lie(prices, weights, [[-1] * len(row) for row in floors]))

    def test_one_too_great(self):
        for prices, weights in FEW:
            floors = least_floors(prices, weights)
            for first, end in stretches(len(weights)):
                turned = with_floor(floors, first, end, floors[first][end - first - 1] + 1)
                self.assertEqual(first_lie(prices, weights, turned), (first, end))

    def test_the_least_of_several_lies(self):
        chance = random.Random(55)
        for prices, weights in FEW:
            for most in (0, 2, 30, 10 ** 40):
                floors = some_floors(chance, len(weights), most)
                handed = copied(floors)
                told = first_lie(prices, weights, handed)
                self.assertEqual(handed, floors)
                self.assertEqual(told, min(lies_of(prices, weights, floors), default=None))

    def test_a_lie_of_a_stretch_of_one_thing(self):
        self.assertEqual(first_lie((1, 2), (7,), [[1]]), (0, 1))
        self.assertIsNone(first_lie((1, 2), (7,), [[0]]))
        self.assertIsNone(first_lie((1, 2), (7,), [[-MOST]]))
        self.assertEqual(first_lie((1, 2), (7, 7), [[0, -5], [3]]), (1, 2))
        self.assertEqual(first_lie((1, 2), (7, 7), [[0, 99], [3]]), (0, 2))

    def test_unlike_rows(self):
        for prices, weights in FEW[:12]:
            for turned in unlike_rows(least_floors(prices, weights)):
                self.assertRaises(Unlike, first_lie, prices, weights, turned)
        self.assertRaises(Unlike, first_lie, (1, 2), (5,), [[0, 0], [0]])
        self.assertRaises(Unlike, first_lie, (1, 2), (5, 5), [[0]])

    def test_where_floors_hold_no_kept_code_costs_less(self):
        chance = random.Random(56)
        held = 0
        for prices, weights in [((1, 2), (2, 1, 1)), ((1, 1, 2), (1, 2)), ((2, 1), (1, 1, 1, 1))]:
            for again in range(300):
                floors = [
                    [min(0, number) + 2 * at for at, number in enumerate(row)]
                    for row in some_floors(chance, len(weights), 12)
                ]
                if first_lie(prices, weights, floors) is None:
                    held += 1
                    for first, end in stretches(len(weights)):
                        floor = floors[first][end - first - 1]
                        for code in kept_codes(len(prices), end - first, 3):
                            self.assertGreaterEqual(cost_of(prices, weights[first:end], code), floor)
        self.assertGreater(held, 20)


class TestShowsKept(unittest.TestCase):
    def test_what_is_told_shows(self):
        books = FEW + some_books(57, 4, (2, 6), (10, 24), MOST) + [((1,) * 6, (1,) * 24)]
        for prices, weights in books:
            told = cheapest_kept(prices, weights)
            handed = copied(told[2])
            self.assertIs(shows_kept(prices, weights, told[1], handed), True)
            self.assertEqual(handed, told[2])

    def test_twenty_four_things_and_six_letters_in_a_short_time(self):
        prices, weights = some_books(58, 1, (6, 6), (24, 24), MOST)[0]
        told = cheapest_kept(prices, weights)
        began = time.monotonic()
        self.assertTrue(shows_kept(prices, weights, told[1], told[2]))
        self.assertLess(time.monotonic() - began, 10)

    def test_all_codes_with_the_least_floors(self):
        for prices, weights in (((1, 2), (3, 1, 2)), ((1, 1), (1, 1, 1)), ((2, 1, 3), (1, 4)), ((1, 1), (1,))):
            floors = least_floors(prices, weights)
            least = min(cost_of(prices, weights, code) for code in lean_codes(len(prices), len(weights)))
            for code in kept_codes(len(prices), len(weights), 3):
                self.assertIs(shows_kept(prices, weights, code, floors), cost_of(prices, weights, code) == least)

    def test_floors_of_others_that_are_less_beneath(self):
        # Only the floor of all must reach the cost, and only the floors that it rests on.
        self.assertIs(shows_kept((1, 3), (5, 2), ((0,), (1,)), [[0, 11], [0]]), True)
        self.assertIs(shows_kept((1, 3), (5, 2), ((0,), (1,)), [[0, 10], [0]]), False)
        self.assertIs(shows_kept((1, 1), (1, 1, 9), ((0, 0), (0, 1), (1,)), [[0, 2, 13], [0, 10], [0]]), True)
        self.assertIs(shows_kept((1, 1), (1, 1, 9), ((0, 0), (0, 1), (1,)), [[0, 2, 13], [0, 1], [0]]), False)
        self.assertIs(shows_kept((1, 1), (9, 1, 1), ((0,), (1, 0), (1, 1)), [[0, 9, 13], [0, 2], [0]]), True)

    def test_codes_that_cost_too_much(self):
        floors = least_floors((1, 3), (7, 2, 2))
        self.assertIs(shows_kept((1, 3), (7, 2, 2), ((0,), (1, 0), (1, 1)), floors), True)
        for code in (((0,), (1, 0), (1, 1, 0)), ((0, 0), (0, 1), (1,)), ((0, 0), (1, 0), (1, 1)), ((0,), (1, 1, 0), (1, 1, 1))):
            self.assertIs(shows_kept((1, 3), (7, 2, 2), code, floors), False)

    def test_codes_that_are_not_kept(self):
        # None of them costs too much.
        for prices, weights, code in (
            ((1, 1), (1, 1), ((1,), (0,))),
            ((1, 1), (1, 1), ((0,), (0,))),
            ((1, 1), (1, 1), ((), ())),
            ((1, 1), (1, 1), ((), (1,))),
            ((1, 3), (7, 2, 2), ((0,), (1, 1), (1, 0))),
            ((1, 3), (7, 2, 2), ((0,), (0, 0), (0, 0, 0))),
        ):
            floors = least_floors(prices, weights)
            self.assertLessEqual(cost_of(prices, weights, code), floors[0][-1])
            self.assertIs(shows_kept(prices, weights, code, floors), False)

    def test_too_many_or_too_few_words(self):
        floors = least_floors((1, 3), (7, 2, 2))
        for code in (((),), ((0,), (1,)), ((0,), (1, 0), (1, 1, 0), (1, 1, 1)), tuple((1,) * many + (0,) for many in range(24))):
            self.assertIs(shows_kept((1, 3), (7, 2, 2), code, floors), False)

    def test_numbers_that_are_no_letters(self):
        floors = least_floors((1, 3), (7, 2, 2))
        for number in (-1, -2, 2, 3, MOST, -MOST):
            for code in (((0,), (1, 0), (1, number)), ((0,), (1, 0), (number,)), ((number,), (1, 0), (1, 1))):
                self.assertIs(shows_kept((1, 3), (7, 2, 2), tuple(sorted(code)), floors), False)
        self.assertIs(shows_kept((1, 3), (1,), ((-1,),), [[0]]), False)

    def test_floors_that_do_not_hold(self):
        for prices, weights in FEW:
            told = cheapest_kept(prices, weights)
            for first, end in stretches(len(weights)):
                turned = with_floor(told[2], first, end, told[2][first][end - first - 1] + 1)
                self.assertIs(shows_kept(prices, weights, told[1], turned), False)

    def test_floors_that_have_not_such_rows(self):
        for prices, weights in FEW[:12]:
            told = cheapest_kept(prices, weights)
            for turned in unlike_rows(told[2]):
                self.assertIs(shows_kept(prices, weights, told[1], turned), False)

    def test_one_thing(self):
        self.assertIs(shows_kept((1, 2), (7,), ((),), [[0]]), True)
        self.assertIs(shows_kept((1, 2), (7,), ((0,),), [[0]]), False)
        self.assertIs(shows_kept((1, 2), (7,), ((),), [[-1]]), False)
        self.assertIs(shows_kept((1, 2), (7,), ((),), [[1]]), False)


if __name__ == "__main__":
    unittest.main()
