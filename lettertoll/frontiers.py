"""Frontiers: codes in free order, settled and opened move by move, and floors for them."""

from lettertoll.errors import TooMany

FIRST = (0, (0,))


def refuse_many(prices, weights):
    if len(weights) > (7 if len(prices) == 2 else 6):
        raise TooMany("free order is for 6 things at most, or 7 where there are two letters")


def moves(prices, weights, frontier):
    refuse_many(prices, weights)
    settled = frontier[0]
    gaps = frontier[1]
    found = []
    if len(gaps) > 1 or settled == len(weights) - 1:
        found.append(move_to(weights, 0, settled + 1, gaps[1:]))
    # So the last frontier has no move: there settled is as many as the things.
    for many in range(2, len(prices) + 1):
        if settled + len(gaps) - 1 + many <= len(weights):
            opened = tuple(sorted(prices)[:many])
            found.append(move_to(weights, many, settled, gaps[1:] + opened))
    return found


def move_to(weights, number, settled, gaps):
    if len(gaps) == 0:
        return (number, 0, (settled, ()))
    least = min(gaps)
    counted_anew = tuple([gap - least for gap in sorted(gaps)])
    return (number, least * weight_left(weights, settled), (settled, counted_anew))


# The heavier things are settled first.
def weight_left(weights, settled):
    return sum(sorted(weights)[:len(weights) - settled])


def frontier_floors(prices, weights):
    reached = moves_reached(prices, weights)
    floors = {}
    # To settle makes settled more, to open makes the gaps more: what a
    # frontier's moves lead to stands behind it in this order.
    for frontier in sorted(reached, key=lambda one: (one[0], len(one[1])), reverse=True):
        floors[frontier] = min([move[1] + floors[move[2]] for move in reached[frontier]], default=0)
    return sorted(floors.items())


# For each frontier to which moves lead from the first one, its moves.
def moves_reached(prices, weights):
    reached = {}
    waiting = [FIRST]
    while len(waiting) > 0:
        frontier = waiting.pop()
        if frontier not in reached:
            reached[frontier] = moves(prices, weights, frontier)
            waiting.extend([move[2] for move in reached[frontier]])
    return reached


def frontiers_hold(prices, weights, told):
    refuse_many(prices, weights)
    if not all([is_frontier(pair[0], len(weights)) for pair in told]):
        return False
    if not all([told[at][0] < told[at + 1][0] for at in range(len(told) - 1)]):
        return False
    floors = dict(told)
    return FIRST in floors and all([holds(prices, weights, floors, pair[0]) for pair in told])


def is_frontier(frontier, things):
    settled = frontier[0]
    gaps = frontier[1]
    if not 0 <= settled <= things or settled + len(gaps) > things:
        return False
    if len(gaps) == 0:
        return settled == things
    return gaps[0] == 0 and all([gaps[at] <= gaps[at + 1] for at in range(len(gaps) - 1)])


def holds(prices, weights, floors, frontier):
    floor = floors[frontier]
    if frontier[0] == len(weights):
        return floor <= 0
    return all([
        move[2] in floors and floor <= move[1] + floors[move[2]] for move in moves(prices, weights, frontier)
    ])
