"""Points [8.1], [8.4], [8.5], [0.4] and the interface's section on lettertoll/free.py."""

import itertools
import random
import time
import unittest

from lettertoll.codes import clash, cost
from lettertoll.errors import BadNumber, TooMany
from lettertoll.free import code_of_moves, free_code, free_moves, free_shown
from lettertoll.frontiers import frontier_floors, moves
from lettertoll.kept import cheapest_kept
from tests.by_trial import (
    AS_MANY, FREE_BOOKS, MOST, TOO_MANY, clash_there, cost_of, kept_codes, lean_codes, price_of, some_books, words_up_to,
)

FIRST = (0, (0,))


def least_in_any_order(prices, weights, codes):
    """The heavier a thing, the cheaper its word: so the words of each code are dealt out at their cheapest."""
    heavy = sorted(weights, reverse=True)
    return min(
        sum(weight * price for weight, price in zip(heavy, sorted(price_of(prices, word) for word in code)))
        for code in codes
    )


def paired_sums(weights):
    """The least cost for two letters of the price 1: the two lightest go together again and again."""
    left, total = sorted(weights), 0
    while len(left) > 1:
        together = left[0] + left[1]
        total += together
        left = sorted(left[2:] + [together])
    return total


def rows_of_moves(prices, weights, frontier=FIRST):
    """All rows of moves, each with what its moves cost."""
    if frontier[0] == len(weights):
        return [([], 0)]
    return [
        ([number] + row, price + rest)
        for number, price, to in moves(prices, weights, frontier)
        for row, rest in rows_of_moves(prices, weights, to)
    ]


def cost_of_row(prices, weights, row):
    frontier, total = FIRST, 0
    for number in row:
        price, frontier = {move[0]: move[1:] for move in moves(prices, weights, frontier)}[number]
        total += price
    return total if frontier == (len(weights), ()) else None


class TestTooMany(unittest.TestCase):
    def test_refused_ahead_of_all_else(self):
        for prices, weights in TOO_MANY:
            for row in ([], [0], [2], [9] * 40, [-1]):
                self.assertRaises(TooMany, code_of_moves, prices, weights, row)
            self.assertRaises(TooMany, free_moves, prices, weights)
            self.assertRaises(TooMany, free_code, prices, weights)
            for code in (((),), ((0,), (0,)), ((9,),) * len(weights)):
                self.assertRaises(TooMany, free_shown, prices, weights, code, [])
                self.assertRaises(TooMany, free_shown, prices, weights, code, [(FIRST, 0)])

    def test_as_many_as_there_may_be(self):
        for prices, weights in AS_MANY:
            row = free_moves(prices, weights)
            code = code_of_moves(prices, weights, row)
            least = free_code(prices, weights)[0]
            self.assertEqual(cost(prices, weights, code), least)
            self.assertIs(free_shown(prices, weights, code, frontier_floors(prices, weights)), True)


class TestCodeOfMoves(unittest.TestCase):
    def test_some(self):
        self.assertEqual(code_of_moves((1, 3), (5,), [0]), ((),))
        self.assertEqual(code_of_moves((1, 3), (5, 2), [2, 0, 0]), ((0,), (1,)))
        self.assertEqual(code_of_moves((1, 3), (2, 5), [2, 0, 0]), ((1,), (0,)))
        self.assertEqual(code_of_moves((3, 1), (2, 5), [2, 0, 0]), ((0,), (1,)))
        self.assertEqual(code_of_moves((1, 3), (2, 5, 1), [2, 0, 2, 0, 0]), ((1, 0), (0,), (1, 1)))
        self.assertEqual(code_of_moves((1, 3), (2, 5, 1), [2, 2, 0, 0, 0]), ((1,), (0, 0), (0, 1)))

    def test_the_first_cheap_letters(self):
        self.assertEqual(code_of_moves((9, 2, 5), (2, 1), [2, 0, 0]), ((1,), (2,)))
        self.assertEqual(code_of_moves((9, 2, 5), (2, 1, 1), [3, 0, 0, 0]), ((1,), (2,), (0,)))
        # Of one price the lesser number goes first.
        told = code_of_moves((7, 4, 7, 7), (3, 1), [2, 0, 0])
        self.assertEqual(told, ((1,), (0,)))

    def test_of_one_weight_the_lesser_number_is_settled_first(self):
        self.assertEqual(code_of_moves((1, 3), (5, 5), [2, 0, 0]), ((0,), (1,)))
        self.assertEqual(code_of_moves((1, 3), (1, 5, 5, 1), [2, 2, 2, 0, 0, 0, 0]), code_of_moves(
            (1, 3), (1, 6, 5, 1), [2, 2, 2, 0, 0, 0, 0]
        ))
        code = code_of_moves((1, 5, 9), (4, 4, 4), [3, 0, 0, 0])
        self.assertEqual(code, ((0,), (1,), (2,)))

    def test_all_rows_of_moves_of_few_things(self):
        for prices, weights in FREE_BOOKS:
            if len(weights) > 5:
                continue
            for row, price in rows_of_moves(prices, weights):
                code = code_of_moves(prices, weights, row)
                self.assertIs(code.__class__, tuple)
                self.assertEqual({word.__class__ for word in code}, {tuple})
                self.assertEqual(len(code), len(weights))
                self.assertIsNone(clash(code))
                self.assertEqual(cost_of(prices, weights, code), price)

    def test_some_rows_of_many_things(self):
        chance = random.Random(121)
        for prices, weights in FREE_BOOKS + AS_MANY:
            for again in range(10):
                row, frontier = [], FIRST
                while frontier[0] < len(weights):
                    number, price, frontier = chance.choice(moves(prices, weights, frontier))
                    row.append(number)
                handed = list(row)
                code = code_of_moves(prices, weights, handed)
                self.assertEqual(handed, row)
                self.assertIsNone(clash(code))
                self.assertEqual(cost_of(prices, weights, code), cost_of_row(prices, weights, row))

    def test_rows_that_end_too_early_or_go_on_too_long(self):
        for prices, weights in FREE_BOOKS + AS_MANY:
            row = free_moves(prices, weights)
            for cut in range(len(row)):
                self.assertRaises(BadNumber, code_of_moves, prices, weights, row[:cut])
            for number in (0, 1, 2, 3, -1, MOST):
                self.assertRaises(BadNumber, code_of_moves, prices, weights, row + [number])
            self.assertRaises(BadNumber, code_of_moves, prices, weights, row + [0] * (40 - len(row)))

    def test_numbers_that_are_no_moves(self):
        for prices, weights in FREE_BOOKS + AS_MANY:
            row, frontier = free_moves(prices, weights), FIRST
            for at, right in enumerate(row):
                there = {move[0]: move[2] for move in moves(prices, weights, frontier)}
                for number in (-1, 0, 1, 2, 3, 4, 5, 6, 7, len(prices) + 1, MOST, -MOST):
                    if number not in there:
                        turned = row[:at] + [number] + row[at + 1:]
                        self.assertRaises(BadNumber, code_of_moves, prices, weights, turned)
                frontier = there[right]

    def test_all_short_rows(self):
        for prices, weights in (((1, 3), (2, 5)), ((1, 3), (2, 5, 1)), ((2, 1, 1), (1, 1, 3)), ((1, 1), (4,))):
            right = [row for row, price in rows_of_moves(prices, weights)]
            for size in range(7):
                for row in itertools.product((0, 2, 3), repeat=size):
                    if list(row) in right:
                        self.assertEqual(len(code_of_moves(prices, weights, list(row))), len(weights))
                    else:
                        self.assertRaises(BadNumber, code_of_moves, prices, weights, list(row))


class TestFreeMoves(unittest.TestCase):
    def test_a_row_that_costs_as_little_as_any(self):
        for prices, weights in FREE_BOOKS + AS_MANY:
            row = free_moves(prices, weights)
            self.assertIs(row.__class__, list)
            told = cost_of_row(prices, weights, row)
            self.assertEqual(told, frontier_floors(prices, weights)[0][1])
            if len(weights) <= 5:
                self.assertEqual(told, min(price for other, price in rows_of_moves(prices, weights)))

    def test_some(self):
        self.assertEqual(free_moves((1, 3), (5,)), [0])
        self.assertEqual(free_moves((1, 3), (5, 2)), [2, 0, 0])
        self.assertEqual(free_moves((1, 1), (9, 1, 1)), [2, 0, 2, 0, 0])
        self.assertEqual(free_moves((1, 1, 1), (9, 1, 1)), [3, 0, 0, 0])

    def test_a_told_list_that_is_changed_does_not_change_the_next_answer(self):
        free_moves((1, 3), (5, 2)).clear()
        self.assertEqual(free_moves((1, 3), (5, 2)), [2, 0, 0])


class TestFreeCode(unittest.TestCase):
    def check(self, prices, weights, least):
        told = free_code(prices, weights)
        self.assertIs(told.__class__, tuple)
        self.assertEqual(len(told), 2)
        self.assertEqual(told[0], least)
        self.assertEqual(len(told[1]), len(weights))
        self.assertIsNone(clash(told[1]))
        self.assertEqual(cost(prices, weights, told[1]), least)
        self.assertEqual(frontier_floors(prices, weights)[0], (FIRST, least))

    def test_all_codes_free_of_clashes_gone_through(self):
        for prices, weights, longest in (
            ((1, 1), (1, 1, 1), 3), ((1, 3), (2, 5, 1), 3), ((3, 1), (1, 1, 7), 3), ((1, 2, 4), (2, 1), 2),
            ((1, 2, 4), (1, 5, 3), 2), ((1, 9), (4, 1, 4), 3), ((2, 3), (7,), 3), ((1, 3), (1, 2, 3, 4), 3),
        ):
            costs = []
            for code in itertools.permutations(words_up_to(len(prices), longest), len(weights)):
                if not any(clash_there(one, other) for one, other in itertools.combinations(code, 2)):
                    costs.append(cost_of(prices, weights, code))
            self.check(prices, weights, min(costs))

    def test_few_things_in_any_order(self):
        books = some_books(122, 20, (2, 3), (1, 5), 9) + some_books(123, 10, (2, 4), (1, 4), MOST)
        for prices, weights in books + [((1, 5, 5), (3, 3, 2, 2, 1, 1)), ((1, 2), (6, 5, 4, 3, 2, 1))]:
            codes = lean_codes(len(prices), len(weights))
            self.check(prices, weights, least_in_any_order(prices, weights, codes))

    def test_words_with_lone_knots_cost_no_less(self):
        for prices, weights in (((1, 3), (3, 1, 2)), ((2, 1), (1, 1, 1)), ((1, 9), (1, 4, 4))):
            self.check(prices, weights, least_in_any_order(prices, weights, kept_codes(2, 3, 4)))

    def test_two_like_letters(self):
        chance = random.Random(124)
        for things in range(1, 8):
            for most in (1, 2, 9, 10 ** 29):
                weights = tuple(chance.randint(1, most) for thing in range(things))
                self.check((1, 1), weights, paired_sums(weights))
                self.check((7, 7), weights, 7 * paired_sums(weights))

    def test_no_kept_code_costs_less(self):
        for prices, weights in FREE_BOOKS:
            self.assertLessEqual(free_code(prices, weights)[0], cheapest_kept(prices, weights)[0])

    def test_things_in_their_own_order(self):
        self.assertEqual(free_code((1, 3), (2, 5)), (11, ((1,), (0,))))
        self.assertEqual(free_code((1, 1), (1, 1, 9))[1][2], (0,))
        for prices, weights in FREE_BOOKS:
            code = free_code(prices, weights)[1]
            for one, other in itertools.combinations(range(len(weights)), 2):
                if weights[one] > weights[other]:
                    self.assertLessEqual(price_of(prices, code[one]), price_of(prices, code[other]))

    def test_in_a_short_time(self):
        books = some_books(125, 10, (6, 6), (6, 6), MOST) + some_books(126, 10, (2, 2), (7, 7), MOST)
        began = time.monotonic()
        for prices, weights in books:
            least, code = free_code(prices, weights)
            self.assertIs(free_shown(prices, weights, code, frontier_floors(prices, weights)), True)
        self.assertLess(time.monotonic() - began, 20)

    def test_the_same_question_has_the_same_answer(self):
        first = free_code((1, 1, 1), (2, 2, 2, 2, 2))
        free_code((1, 2), (3, 3, 3))
        self.assertEqual(free_code((1, 1, 1), (2, 2, 2, 2, 2)), first)


class TestFreeShown(unittest.TestCase):
    def test_what_is_told_is_shown(self):
        for prices, weights in FREE_BOOKS + AS_MANY:
            floors = frontier_floors(prices, weights)
            handed = list(floors)
            self.assertIs(free_shown(prices, weights, free_code(prices, weights)[1], handed), True)
            self.assertEqual(handed, floors)

    def test_all_codes_of_few_things(self):
        for prices, weights in (((1, 3), (2, 5, 1)), ((1, 1), (1, 1, 1)), ((2, 2), (5,)), ((1, 2), (3, 4))):
            floors = frontier_floors(prices, weights)
            for code in itertools.product(words_up_to(2, 2), repeat=len(weights)):
                free = not any(clash_there(one, other) for one, other in itertools.combinations(code, 2))
                shown = free and cost_of(prices, weights, code) == floors[0][1]
                self.assertIs(free_shown(prices, weights, code, floors), shown)

    def test_codes_with_clashes(self):
        floors = frontier_floors((1, 1), (1, 1, 1))
        for code in (((), (), ()), ((0,), (0,), (1,)), ((0,), (0, 1), (1,)), ((1,), (0,), ())):
            self.assertLessEqual(cost_of((1, 1), (1, 1, 1), code), floors[0][1])
            self.assertIs(free_shown((1, 1), (1, 1, 1), code, floors), False)

    def test_too_many_or_too_few_words(self):
        floors = frontier_floors((1, 1), (1, 1, 1))
        for code in ((), ((),), ((0,), (1,)), ((0, 0), (0, 1), (1, 0), (1, 1)), tuple((1,) * many + (0,) for many in range(24))):
            self.assertIs(free_shown((1, 1), (1, 1, 1), code, floors), False)

    def test_numbers_that_are_no_letters(self):
        floors = frontier_floors((1, 1), (1, 1, 1))
        for number in (-1, -2, 2, 3, MOST, -MOST):
            for code in (((0,), (1, 0), (1, number)), ((0,), (1, 0), (number,)), ((number,), (1, 0), (1, 1))):
                self.assertIs(free_shown((1, 1), (1, 1, 1), code, floors), False)

    def test_codes_that_cost_too_much(self):
        floors = frontier_floors((1, 3), (2, 5, 1))
        least, code = free_code((1, 3), (2, 5, 1))
        lower = [(FIRST, least - 1)] + floors[1:]
        self.assertIs(free_shown((1, 3), (2, 5, 1), code, lower), False)
        self.assertIs(free_shown((1, 3), (2, 5, 1), code[:2] + (code[2] + (0,),), floors), False)
        self.assertIs(free_shown((1, 3), (2, 5, 1), (code[1], code[0], code[2]), floors), False)
        self.assertIs(free_shown((1, 3), (2, 5, 1), code, floors), True)

    def test_floors_that_do_not_hold(self):
        for prices, weights in FREE_BOOKS:
            floors = frontier_floors(prices, weights)
            code = free_code(prices, weights)[1]
            self.assertIs(free_shown(prices, weights, code, []), False)
            self.assertIs(free_shown(prices, weights, code, floors[::-1]), False)
            self.assertIs(free_shown(prices, weights, code, floors[1:]), False)
            self.assertIs(free_shown(prices, weights, code, floors[:-1]), False)
            self.assertIs(free_shown(prices, weights, code, floors + [((0, ()), 0)]), False)
            for at, (frontier, floor) in enumerate(floors):
                turned = floors[:at] + [(frontier, floor + 1)] + floors[at + 1:]
                self.assertIs(free_shown(prices, weights, code, turned), False)


if __name__ == "__main__":
    unittest.main()
