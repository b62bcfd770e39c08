"""Points [8.1], [8.2], [8.3], [8.5], [0.4] and the interface's section on lettertoll/frontiers.py."""

import itertools
import random
import time
import unittest

from lettertoll.errors import TooMany
from lettertoll.frontiers import frontier_floors, frontiers_hold, moves
from tests.by_trial import AS_MANY, FREE_BOOKS, MOST, TOO_MANY, some_books

FIRST = (0, (0,))


def moves_by_words(prices, weights, frontier):
    """The moves as [8.3] tells them."""
    settled, gaps = frontier
    things = len(weights)
    if settled == things:
        return []
    order = sorted(range(things), key=lambda thing: (-weights[thing], thing))
    found = []
    ends = []
    if len(gaps) >= 2 or settled == things - 1:
        ends.append((0, settled + 1, sorted(gaps[1:])))
    for many in range(2, len(prices) + 1):
        behind = sorted(list(gaps[1:]) + sorted(prices)[:many])
        if settled + len(behind) <= things:
            ends.append((many, settled, behind))
    for number, settled_then, behind in ends:
        if settled_then == things:
            found.append((number, 0, (things, ())))
        else:
            least = behind[0]
            left = sum(weights[thing] for thing in order[settled_then:])
            found.append((number, least * left, (settled_then, tuple(gap - least for gap in behind))))
    return found


def reached_by_words(prices, weights):
    found, waiting = {}, [FIRST]
    while waiting:
        frontier = waiting.pop()
        if frontier not in found:
            found[frontier] = moves_by_words(prices, weights, frontier)
            waiting += [move[2] for move in found[frontier]]
    return found


def floors_by_words(prices, weights):
    reached = reached_by_words(prices, weights)

    def least(frontier):
        return min((move[1] + floors[move[2]] for move in reached[frontier]), default=0)

    floors = {}
    for frontier in sorted(reached, key=lambda one: (-one[0], -len(one[1]))):
        floors[frontier] = least(frontier)
    return sorted(floors.items())


def is_frontier_by_words(frontier, things):
    settled, gaps = frontier
    if settled == things:
        return gaps == ()
    return (
        0 <= settled < things and 1 <= len(gaps) <= things - settled and gaps[0] == 0 and list(gaps) == sorted(gaps)
    )


def hold_by_words(prices, weights, told):
    frontiers = [frontier for frontier, floor in told]
    if frontiers != sorted(set(frontiers)) or FIRST not in frontiers:
        return False
    if not all(is_frontier_by_words(frontier, len(weights)) for frontier in frontiers):
        return False
    floors = dict(told)
    for frontier, floor in told:
        if frontier[0] == len(weights) and floor > 0:
            return False
        for number, price, to in moves_by_words(prices, weights, frontier):
            if to not in floors or floor > price + floors[to]:
                return False
    return True


class TestTooMany(unittest.TestCase):
    def test_refused_ahead_of_all_else(self):
        for prices, weights in TOO_MANY:
            for frontier in (FIRST, (len(weights), ()), (3, (5, 1)), (-1, ())):
                self.assertRaises(TooMany, moves, prices, weights, frontier)
            self.assertRaises(TooMany, frontier_floors, prices, weights)
            for told in ([], [(FIRST, 0)], [((-1, ()), 5)], [((1, (0,)), 5), ((0, (0,)), 5)]):
                self.assertRaises(TooMany, frontiers_hold, prices, weights, told)

    def test_as_many_as_there_may_be(self):
        for prices, weights in AS_MANY:
            self.assertEqual(moves(prices, weights, FIRST)[0][0], 2)
            floors = frontier_floors(prices, weights)
            self.assertIs(frontiers_hold(prices, weights, floors), True)


class TestMoves(unittest.TestCase):
    def test_some(self):
        self.assertEqual(moves((1, 3), (5, 2, 2), FIRST), [(2, 9, (0, (0, 2)))])
        self.assertEqual(
            moves((1, 3), (5, 2, 2), (0, (0, 2))), [(0, 8, (1, (0,))), (2, 9, (0, (0, 1, 2)))]
        )
        self.assertEqual(moves((1, 3), (5, 2, 2), (2, (0,))), [(0, 0, (3, ()))])
        self.assertEqual(moves((1, 3), (5, 2, 2), (1, (0,))), [(2, 4, (1, (0, 2)))])
        self.assertEqual(moves((3, 9, 1), (2, 5, 2), FIRST), [(2, 9, (0, (0, 2))), (3, 9, (0, (0, 2, 8)))])

    def test_the_last_frontier_has_none(self):
        for prices, weights in FREE_BOOKS:
            self.assertEqual(moves(prices, weights, (len(weights), ())), [])

    def test_one_thing(self):
        self.assertEqual(moves((1, 3), (5,), FIRST), [(0, 0, (1, ()))])

    def test_of_all_frontiers_to_which_moves_lead(self):
        for prices, weights in FREE_BOOKS:
            for frontier, asked in reached_by_words(prices, weights).items():
                told = moves(prices, weights, frontier)
                self.assertEqual(told, asked)
                self.assertIs(told.__class__, list)
                for move in told:
                    self.assertIs(move.__class__, tuple)
                    self.assertTrue(is_frontier_by_words(move[2], len(weights)))

    def test_of_frontiers_to_which_no_moves_lead(self):
        chance = random.Random(113)
        for prices, weights in FREE_BOOKS:
            for again in range(20):
                settled = chance.randrange(len(weights))
                size = chance.randint(1, len(weights) - settled)
                gaps = (0,) + tuple(sorted(chance.choice((0, 1, 7, 10 ** 40)) for gap in range(size - 1)))
                self.assertEqual(moves(prices, weights, (settled, gaps)), moves_by_words(prices, weights, (settled, gaps)))

    def test_the_heavier_things_are_settled_first(self):
        self.assertEqual(moves((1, 1), (1, 100, 10), (0, (0, 0, 4))), [(0, 0, (1, (0, 4)))])
        self.assertEqual(moves((1, 1), (1, 100, 10), (1, (0, 4))), [(0, 4, (2, (0,)))])
        self.assertEqual(moves((1, 1), (1, 100, 10), (0, (0, 4))), [(0, 44, (1, (0,))), (2, 111, (0, (0, 0, 3)))])

    def test_a_told_list_that_is_changed_does_not_change_the_next_answer(self):
        told = moves((1, 3), (5, 2, 2), (0, (0, 2)))
        told.clear()
        self.assertEqual(len(moves((1, 3), (5, 2, 2), (0, (0, 2)))), 2)


class TestFrontierFloors(unittest.TestCase):
    def test_some(self):
        self.assertEqual(frontier_floors((1, 3), (5,)), [((0, (0,)), 0), ((1, ()), 0)])
        self.assertEqual(
            frontier_floors((1, 3), (5, 2)),
            [((0, (0,)), 11), ((0, (0, 2)), 4), ((1, (0,)), 0), ((2, ()), 0)],
        )

    def test_those_of_all_frontiers_to_which_moves_lead(self):
        for prices, weights in FREE_BOOKS + AS_MANY:
            told = frontier_floors(prices, weights)
            self.assertEqual(told, floors_by_words(prices, weights))
            self.assertIs(told.__class__, list)
            self.assertEqual({pair.__class__ for pair in told}, {tuple})

    def test_in_a_short_time(self):
        began = time.monotonic()
        for prices, weights in some_books(114, 20, (6, 6), (6, 6), MOST) + some_books(115, 20, (2, 2), (7, 7), MOST):
            self.assertEqual(frontier_floors(prices, weights), floors_by_words(prices, weights))
        self.assertLess(time.monotonic() - began, 20)

    def test_a_told_list_that_is_changed_does_not_change_the_next_answer(self):
        told = frontier_floors((1, 3), (5, 2))
        told.pop()
        told[0] = ((0, (0,)), 99)
        self.assertEqual(frontier_floors((1, 3), (5, 2))[0], ((0, (0,)), 11))
        self.assertEqual(len(frontier_floors((1, 3), (5, 2))), 4)


class TestFrontiersHold(unittest.TestCase):
    def asked(self, prices, weights, told):
        handed = list(told)
        self.assertIs(frontiers_hold(prices, weights, handed), hold_by_words(prices, weights, told), (prices, weights, told))
        self.assertEqual(handed, told)

    def test_the_told_ones_hold(self):
        for prices, weights in FREE_BOOKS:
            self.assertIs(frontiers_hold(prices, weights, frontier_floors(prices, weights)), True)

    def test_lesser_ones_hold(self):
        for prices, weights in FREE_BOOKS:
            floors = frontier_floors(prices, weights)
            for less in (1, MOST):
                lesser = [(frontier, floor - less) for frontier, floor in floors]
                self.assertIs(frontiers_hold(prices, weights, lesser), True)
            first_less = [(FIRST, floors[0][1] - 1)] + floors[1:]
            self.assertIs(frontiers_hold(prices, weights, first_less), True)

    def test_one_too_great(self):
        for prices, weights in FREE_BOOKS:
            floors = frontier_floors(prices, weights)
            for at, (frontier, floor) in enumerate(floors):
                turned = floors[:at] + [(frontier, floor + 1)] + floors[at + 1:]
                self.assertIs(frontiers_hold(prices, weights, turned), False)

    def test_one_too_small_may_make_others_too_great(self):
        for prices, weights in FREE_BOOKS:
            floors = frontier_floors(prices, weights)
            for at, (frontier, floor) in enumerate(floors):
                self.asked(prices, weights, floors[:at] + [(frontier, floor - 1)] + floors[at + 1:])

    def test_left_out(self):
        for prices, weights in FREE_BOOKS:
            floors = frontier_floors(prices, weights)
            self.assertIs(frontiers_hold(prices, weights, []), False)
            for at in range(len(floors)):
                self.assertIs(frontiers_hold(prices, weights, floors[:at] + floors[at + 1:]), False)

    def test_without_the_first_one(self):
        # Of the other pairs each one holds.
        self.assertIs(frontiers_hold((1, 3), (5,), [((1, ()), 0)]), False)
        self.assertIs(frontiers_hold((1, 3), (5, 2), [((1, (0,)), 0), ((2, ()), 0)]), False)

    def test_out_of_order_and_told_twice(self):
        for prices, weights in FREE_BOOKS:
            floors = frontier_floors(prices, weights)
            self.assertIs(frontiers_hold(prices, weights, floors[::-1]), False)
            for at in range(len(floors) - 1):
                turned = floors[:at] + [floors[at + 1], floors[at]] + floors[at + 2:]
                self.assertIs(frontiers_hold(prices, weights, turned), False)
            for at in range(len(floors)):
                self.assertIs(frontiers_hold(prices, weights, floors[:at + 1] + floors[at:]), False)
                lesser = (floors[at][0], floors[at][1] - 1)
                self.assertIs(frontiers_hold(prices, weights, floors[:at] + [lesser] + floors[at:]), False)

    def test_frontiers_put_in_to_which_no_moves_lead(self):
        # Held where all that their moves lead to stands there.
        floors = frontier_floors((1, 3), (5, 2))
        for gap in (0, 1, 3, 10 ** 40):
            for floor in (-1, 0, 2 * gap, 2 * gap + 1):
                turned = sorted(floors + [((0, (0, gap)), floor)])
                self.asked((1, 3), (5, 2), turned)
                self.assertIs(frontiers_hold((1, 3), (5, 2), turned), floor <= 2 * gap)
        floors = frontier_floors((1, 3), (5, 2, 2))
        self.asked((1, 3), (5, 2, 2), sorted(floors + [((0, (0, 9)), -MOST)]))
        self.assertIs(frontiers_hold((1, 3), (5, 2, 2), sorted(floors + [((0, (0, 9)), -MOST)])), False)

    def test_what_is_no_frontier(self):
        floors = frontier_floors((1, 3), (5, 2, 2))
        for wrong in (
            (0, ()), (1, ()), (2, ()), (3, (0,)), (3, (0, 0)), (4, ()), (4, (0,)), (-1, (0,)), (-1, ()), (-1, (0, 0, 0, 0)),
            (0, (1,)), (0, (-1,)), (0, (-1, 0)), (0, (0, 2, 1)), (0, (0, -1)), (0, (0, 0, 0, 0)), (1, (0, 0, 0)),
            (2, (0, 0)), (MOST, ()), (-MOST, ()), (0, (1, 2)), (1, (5,)), (1, (0, -2)), (2, (3,)),
        ):
            self.assertFalse(is_frontier_by_words(wrong, 3), wrong)
            for floor in (-MOST, 0):
                turned = sorted(floors + [(wrong, floor)])
                self.assertIs(frontiers_hold((1, 3), (5, 2, 2), turned), False, wrong)

    def test_all_small_frontiers_put_in(self):
        floors = frontier_floors((1, 1), (1, 1, 1))
        for settled in range(-1, 5):
            for size in range(5):
                for gaps in itertools.product((-1, 0, 1), repeat=size):
                    if (settled, gaps) not in dict(floors):
                        self.asked((1, 1), (1, 1, 1), sorted(floors + [((settled, gaps), -9)]))

    def test_floors_of_other_prices_and_weights(self):
        for (prices, weights), (others, other_weights) in zip(FREE_BOOKS, FREE_BOOKS[1:]):
            self.asked(prices, weights, frontier_floors(others, other_weights))


if __name__ == "__main__":
    unittest.main()
