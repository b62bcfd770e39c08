"""Points [5.1], [5.2], [5.3], [5.5], [0.4] and the interface's section on lettertoll/boundexam.py."""

import random
import time
import unittest

from lettertoll.bounded import cheapest_bounded, least_stairs
from lettertoll.boundexam import shows_bounded, shows_none, step_lie
from lettertoll.errors import BadNumber, Unlike
from tests.by_trial import MOST, bound_on_step, cost_of, kept_codes, some_books, stretches

NO_TOPS = (-1, -2, -24, -25, -MOST, 25, 26, 48, 10 ** 6, MOST, MOST * MOST)

FEW = some_books(71, 8, (2, 3), (1, 4), 9) + some_books(72, 4, (2, 6), (1, 4), MOST) + [
    ((1, 1), (1,)), ((1, 1), (1, 1, 1, 1)), ((1, MOST, 1), (MOST, 1, 1, MOST)), ((1, 3), (7, 2, 2)),
]


def copied(stairs):
    return [[list(row) for row in floors] for floors in stairs]


def with_floor(stairs, step, first, end, number):
    turned = copied(stairs)
    turned[step][first][end - first - 1] = number
    return turned


def places(top, things):
    return [(step, first, end) for step in range(top + 1) for first, end in stretches(things)]


def floor_at(stairs, place):
    return stairs[place[0]][place[1]][place[2] - place[1] - 1]


def some_stairs(chance, top, things, most):
    return [
        [
            [None if chance.random() < 0.25 else chance.randint(-most, most) for end in range(first, things)]
            for first in range(things)
        ]
        for step in range(top + 1)
    ]


def lies_of(prices, weights, top, stairs):
    found = []
    for place in places(top, len(weights)):
        floor, bound = floor_at(stairs, place), bound_on_step(prices, weights, stairs, *place)
        if bound is not None and (floor is None or floor > bound):
            found.append(place)
    return found


def unlike_stairs(stairs):
    """The stairs with a step, a row or an entry left out or put in."""
    found = [[], stairs[:-1], stairs[1:], stairs + [stairs[-1]], stairs + [[]], [[]] + stairs[1:]]
    for step, floors in enumerate(stairs):
        unlike = [floors[:-1], floors + [[0]], [[]] + floors, []]
        for at, row in enumerate(floors):
            for other in (row[:-1], row + [0], row + [None], []):
                unlike.append(floors[:at] + [other] + floors[at + 1:])
        if len(floors) > 1:
            unlike.append(floors[::-1])
        found += [stairs[:step] + [other] + stairs[step + 1:] for other in unlike]
    return found


class TestStepLie(unittest.TestCase):
    def test_least_stairs_hold(self):
        for prices, weights in FEW + some_books(73, 3, (2, 6), (9, 12), MOST):
            for top in (0, 1, 2, 5, 24):
                stairs = least_stairs(prices, weights, top)
                handed = copied(stairs)
                self.assertIsNone(step_lie(prices, weights, top, handed))
                self.assertEqual(handed, stairs)

    def test_a_floor_one_too_great(self):
        for prices, weights in FEW:
            stairs = least_stairs(prices, weights, 3)
            for place in places(3, len(weights)):
                floor = floor_at(stairs, place)
                if floor is not None:
                    turned = with_floor(stairs, *place, floor + 1)
                    self.assertEqual(step_lie(prices, weights, 3, turned), place)

    def test_none_in_a_numbers_place(self):
        for prices, weights in FEW:
            stairs = least_stairs(prices, weights, 3)
            for place in places(3, len(weights)):
                if floor_at(stairs, place) is not None:
                    self.assertEqual(step_lie(prices, weights, 3, with_floor(stairs, *place, None)), place)

    def test_a_number_in_nones_place(self):
        # It is no lie itself, but others may rest on it.
        for prices, weights in FEW:
            stairs = least_stairs(prices, weights, 3)
            for place in places(3, len(weights)):
                if floor_at(stairs, place) is None:
                    for number in (-MOST, 0, MOST, MOST * MOST):
                        turned = with_floor(stairs, *place, number)
                        asked = min(lies_of(prices, weights, 3, turned), default=None)
                        self.assertEqual(step_lie(prices, weights, 3, turned), asked)
        self.assertIsNone(step_lie((1, 3), (5, 2), 0, [[[0, MOST * MOST], [0]]]))
        self.assertEqual(
            step_lie((1, 3), (5, 2, 2), 1, [[[0, 0, None], [0, None], [0]], [[0, 11, None], [0, 8], [0]]]), (1, 0, 3)
        )

    def test_the_least_of_several_lies(self):
        chance = random.Random(74)
        for prices, weights in FEW:
            for top in (0, 1, 3):
                for most in (0, 2, 30, 10 ** 40):
                    stairs = some_stairs(chance, top, len(weights), most)
                    handed = copied(stairs)
                    told = step_lie(prices, weights, top, handed)
                    self.assertEqual(handed, stairs)
                    self.assertEqual(told, min(lies_of(prices, weights, top, stairs), default=None))

    def test_the_least_of_two_lies(self):
        prices, weights = (1, 3), (7, 2, 2)
        stairs = least_stairs(prices, weights, 2)
        held = [place for place in places(2, 3) if floor_at(stairs, place) is not None]
        for one in held:
            for other in held:
                turned = with_floor(with_floor(stairs, *one, None), *other, None)
                self.assertEqual(step_lie(prices, weights, 2, turned), min(one, other))

    def test_one_thing(self):
        self.assertIsNone(step_lie((1, 2), (7,), 1, [[[0]], [[-3]]]))
        self.assertEqual(step_lie((1, 2), (7,), 1, [[[0]], [[1]]]), (1, 0, 1))
        self.assertEqual(step_lie((1, 2), (7,), 0, [[[None]]]), (0, 0, 1))

    def test_unlike_stairs(self):
        for prices, weights in FEW:
            for top in (0, 2):
                for turned in unlike_stairs(least_stairs(prices, weights, top)):
                    self.assertRaises(Unlike, step_lie, prices, weights, top, turned)

    def test_a_top_of_other_stairs(self):
        stairs = least_stairs((1, 2), (3, 4, 5), 4)
        for top in range(25):
            if top != 4:
                self.assertRaises(Unlike, step_lie, (1, 2), (3, 4, 5), top, stairs)

    def test_where_stairs_hold_no_bounded_kept_code_costs_less(self):
        chance = random.Random(75)
        held = 0
        for prices, weights in (((1, 2), (2, 1, 1)), ((1, 1, 2), (1, 2)), ((2, 1), (1, 1, 1))):
            stairs = least_stairs(prices, weights, 2)
            for again in range(200):
                turned = [
                    [
                        [
                            floor if chance.random() < 0.7 else chance.randint(-20, 9 if floor is None else floor)
                            for floor in row
                        ]
                        for row in floors
                    ]
                    for floors in stairs
                ]
                if step_lie(prices, weights, 2, turned) is None:
                    held += 1
                    for step, first, end in places(2, len(weights)):
                        floor = floor_at(turned, (step, first, end))
                        for code in kept_codes(len(prices), end - first, step):
                            self.assertIsNotNone(floor)
                            self.assertGreaterEqual(cost_of(prices, weights[first:end], code), floor)
        self.assertGreater(held, 20)


class TestTops(unittest.TestCase):
    def test_refused_ahead_of_all_else(self):
        stairs = least_stairs((1, 2), (3, 4), 1)
        for top in NO_TOPS:
            for handed in (stairs, [], stairs * 13, [[]], [stairs[0]] * 26):
                self.assertRaises(BadNumber, step_lie, (1, 2), (3, 4), top, handed)
                self.assertRaises(BadNumber, shows_none, (1, 2), (3, 4), top, handed)
                for code in (((0,), (1,)), ((0,), (0,)), ((5,),)):
                    self.assertRaises(BadNumber, shows_bounded, (1, 2), (3, 4), top, code, handed)


class TestShowsBounded(unittest.TestCase):
    def test_what_is_told_shows(self):
        for prices, weights in FEW + some_books(76, 3, (2, 6), (9, 12), MOST):
            for top in (0, 1, 2, 4, 24):
                least, code, stairs = cheapest_bounded(prices, weights, top)
                handed = copied(stairs)
                if code is None:
                    self.assertIs(shows_none(prices, weights, top, handed), True)
                else:
                    self.assertIs(shows_bounded(prices, weights, top, code, handed), True)
                    self.assertIs(shows_none(prices, weights, top, handed), False)
                self.assertEqual(handed, stairs)

    def test_many_things_letters_and_steps_in_a_short_time(self):
        prices, weights = some_books(77, 1, (6, 6), (24, 24), MOST)[0]
        least, code, stairs = cheapest_bounded(prices, weights, 24)
        began = time.monotonic()
        self.assertTrue(shows_bounded(prices, weights, 24, code, stairs))
        self.assertLess(time.monotonic() - began, 15)

    def test_all_codes_with_the_least_stairs(self):
        for prices, weights in (((1, 2), (3, 1, 2)), ((1, 1), (1, 1, 1)), ((2, 1, 3), (1, 4)), ((1, 1), (1,))):
            for top in range(4):
                stairs = least_stairs(prices, weights, top)
                for code in kept_codes(len(prices), len(weights), 3):
                    bounded = all(len(word) <= top for word in code)
                    shown = bounded and cost_of(prices, weights, code) == stairs[top][0][-1]
                    self.assertIs(shows_bounded(prices, weights, top, code, stairs), shown)

    def test_codes_that_are_not_bounded_by_the_top(self):
        weights = (MOST, 10 ** 20, 10 ** 10, 1)
        stairs = least_stairs((1, 1), weights, 2)
        code = ((0,), (1, 0), (1, 1, 0), (1, 1, 1))
        self.assertLess(cost_of((1, 1), weights, code), stairs[2][0][-1])
        self.assertIs(shows_bounded((1, 1), weights, 2, code, stairs), False)
        self.assertIs(shows_bounded((1, 1), weights, 3, code, least_stairs((1, 1), weights, 3)), True)
        self.assertIs(shows_bounded((1, 1), weights, 2, ((0, 0), (0, 1), (1, 0), (1, 1)), stairs), True)
        self.assertIs(shows_bounded((1, 1), weights, 1, code, least_stairs((1, 1), weights, 1)), False)

    def test_codes_that_are_not_kept(self):
        for prices, weights, code in (
            ((1, 1), (1, 1), ((1,), (0,))),
            ((1, 1), (1, 1), ((0,), (0,))),
            ((1, 1), (1, 1), ((), ())),
            ((1, 3), (7, 2, 2), ((0,), (1, 1), (1, 0))),
            ((1, 3), (7, 2, 2), ((0,), (0, 0), (0, 0))),
        ):
            stairs = least_stairs(prices, weights, 2)
            self.assertLessEqual(cost_of(prices, weights, code), stairs[2][0][-1])
            self.assertIs(shows_bounded(prices, weights, 2, code, stairs), False)

    def test_too_many_or_too_few_words(self):
        stairs = least_stairs((1, 3), (7, 2, 2), 4)
        for code in (((),), ((0,), (1,)), ((0,), (1, 0), (1, 1, 0), (1, 1, 1)), tuple((1,) * many + (0,) for many in range(24))):
            self.assertIs(shows_bounded((1, 3), (7, 2, 2), 4, code, stairs), False)

    def test_numbers_that_are_no_letters(self):
        stairs = least_stairs((1, 3), (7, 2, 2), 2)
        self.assertIs(shows_bounded((1, 3), (7, 2, 2), 2, ((0,), (1, 0), (1, 1)), stairs), True)
        for number in (-1, -2, 2, 3, MOST, -MOST):
            for code in (((0,), (1, 0), (1, number)), ((0,), (1, 0), (number,)), ((number,), (1, 0), (1, 1))):
                self.assertIs(shows_bounded((1, 3), (7, 2, 2), 2, tuple(sorted(code)), stairs), False)

    def test_codes_that_cost_too_much(self):
        stairs = least_stairs((1, 3), (7, 2, 2), 3)
        for code in (((0,), (1, 0), (1, 1, 0)), ((0, 0), (0, 1), (1,)), ((0, 0), (1, 0), (1, 1))):
            self.assertIs(shows_bounded((1, 3), (7, 2, 2), 3, code, stairs), False)
        low = with_floor(stairs, 3, 0, 3, 26)
        self.assertIs(shows_bounded((1, 3), (7, 2, 2), 3, ((0,), (1, 0), (1, 1)), low), False)
        self.assertIs(shows_bounded((1, 3), (7, 2, 2), 3, ((0,), (1, 0), (1, 1)), stairs), True)

    def test_stairs_that_do_not_hold(self):
        for prices, weights in FEW:
            least, code, stairs = cheapest_bounded(prices, weights, 3)
            for place in places(3, len(weights)):
                floor = floor_at(stairs, place)
                if floor is not None:
                    for number in (floor + 1, None):
                        turned = with_floor(stairs, *place, number)
                        self.assertIs(shows_bounded(prices, weights, 3, code, turned), False)
                        self.assertIs(shows_none(prices, weights, 3, turned), False)

    def test_unlike_stairs(self):
        for prices, weights in FEW:
            least, code, stairs = cheapest_bounded(prices, weights, 2)
            for turned in unlike_stairs(stairs):
                self.assertIs(shows_bounded(prices, weights, 2, code or ((),), turned), False)
                self.assertIs(shows_none(prices, weights, 2, turned), False)


class TestShowsNone(unittest.TestCase):
    def test_where_there_is_none_and_where_there_is_one(self):
        for letters in (2, 3, 6):
            prices = tuple(range(1, letters + 1))
            for things in (1, 2, 3, 4, 5, 7, 9, 10):
                weights = tuple(range(1, things + 1))
                for top in range(5):
                    stairs = least_stairs(prices, weights, top)
                    self.assertIs(shows_none(prices, weights, top, stairs), letters ** top < things)

    def test_a_number_in_nones_place_shows_nothing(self):
        stairs = least_stairs((1, 2), (3, 4, 5), 1)
        self.assertIs(shows_none((1, 2), (3, 4, 5), 1, stairs), True)
        turned = with_floor(stairs, 1, 0, 3, MOST)
        self.assertIsNone(step_lie((1, 2), (3, 4, 5), 1, turned))
        self.assertIs(shows_none((1, 2), (3, 4, 5), 1, turned), False)
        self.assertIs(shows_none((1, 2), (3, 4, 5), 1, with_floor(stairs, 0, 0, 2, 0)), False)

    def test_other_stairs_that_hold(self):
        self.assertIs(shows_none((1, 2), (3, 4, 5), 1, [[[-1, None, 5], [-9, None], [0]], [[0, -4, None], [0, 2], [0]]]), True)

    def test_no_code_is_shown_where_there_is_none(self):
        stairs = least_stairs((1, 2), (3, 4, 5), 1)
        for code in kept_codes(2, 3, 3):
            self.assertIs(shows_bounded((1, 2), (3, 4, 5), 1, code, stairs), False)


if __name__ == "__main__":
    unittest.main()
