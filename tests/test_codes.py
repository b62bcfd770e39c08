"""Points [0.4], [2.1], [2.2], [2.6], of [2.4] what is lean, and the interface's section on lettertoll/codes.py."""

import itertools
import unittest

from lettertoll.codes import clash, cost, is_kept, is_lean, knots_of, lone_knots
from lettertoll.errors import BadWord, Clash, Unlike

MOST = 1000000000000000000000000000000

SHORT_WORDS = [word for size in range(3) for word in itertools.product((0, 1), repeat=size)]
ODD_WORDS = [(), (-3,), (-3, 5), (-3, 5, 5), (5,), (5, -3), (5, -3, 10 ** 40), (10 ** 40,)]

# All codes of one to three of the short words, and of one to three of the odd ones.
SOME_CODES = [
    code
    for words in (SHORT_WORDS, ODD_WORDS)
    for things in (1, 2, 3)
    for code in itertools.product(words, repeat=things)
]

LEAN_CODES = (
    ((),),
    ((0,), (1,)),
    ((1,), (5,)),
    ((0,), (1, 0), (1, 1)),
    ((0, 0), (0, 1), (1,)),
    ((0, 0), (0, 2), (1,), (2, 1), (2, 2)),
    ((-9, -9), (-9, 0), (10 ** 40,)),
    tuple((1,) * many + (0,) for many in range(23)) + ((1,) * 23,),
)


def stands_ahead(one, other):
    return len(one) <= len(other) and all(mine == its for mine, its in zip(one, other))


def clashes_by_words(code):
    """All clashing pairs, as [2.1] tells them."""
    return [
        (one, other)
        for one in range(len(code))
        for other in range(one + 1, len(code))
        if stands_ahead(code[one], code[other]) or stands_ahead(code[other], code[one])
    ]


def knots_by_words(code):
    """All knots, as [2.2] tells them."""
    found = []
    for word in code:
        for size in range(len(word) + 1):
            if word[:size] not in code and word[:size] not in found:
                found.append(word[:size])
    return sorted(found)


def ways_by_words(code, knot):
    return {word[len(knot)] for word in code if len(word) > len(knot) and stands_ahead(knot, word)}


class TestClash(unittest.TestCase):
    def test_free_of_clashes(self):
        for code in (((),), ((4,),), ((0,), (1,)), ((1,), (0,)), ((0, 1), (1,), (0, 0)), ((0, 0, 0), (0, 1), (0, 0, 1))):
            self.assertIsNone(clash(code))

    def test_words_alike(self):
        self.assertEqual(clash(((0,), (0,))), (0, 1))
        self.assertEqual(clash(((0,), (1,), (0,))), (0, 2))
        self.assertEqual(clash(((0,), (1, 1), (1, 1))), (1, 2))
        self.assertEqual(clash(((), ())), (0, 1))

    def test_a_beginning_ahead_of_and_behind_what_is_longer(self):
        self.assertEqual(clash(((0,), (0, 1))), (0, 1))
        self.assertEqual(clash(((0, 1), (0,))), (0, 1))
        self.assertEqual(clash(((1,), (0,), (0, 1, 1))), (1, 2))
        self.assertEqual(clash(((1,), (0, 1, 1), (0,))), (1, 2))
        self.assertEqual(clash(((), (1,))), (0, 1))
        self.assertEqual(clash(((1,), ())), (0, 1))

    def test_the_least_of_several(self):
        self.assertEqual(clash(((0, 0), (1,), (1, 1), (0,))), (0, 3))
        self.assertEqual(clash(((0, 0), (2,), (1,), (2, 1), (1, 0))), (1, 3))
        self.assertEqual(clash(((0,), (1,), (0,), (0,), (1,))), (0, 2))
        self.assertEqual(clash(((0, 1), (0, 0), ())), (0, 2))

    def test_any_whole_numbers(self):
        self.assertIsNone(clash(((-1,), (-2,), (10 ** 40,))))
        self.assertEqual(clash(((-1, 10 ** 40), (7,), (-1,))), (0, 2))

    def test_as_the_words_of_the_point_tell_for_many_codes(self):
        for code in SOME_CODES:
            told = clash(code)
            pairs = clashes_by_words(code)
            self.assertEqual(told, min(pairs) if pairs else None, code)
            self.assertIn(told.__class__, (tuple, None.__class__))

    def test_twenty_four_words_of_sixty_letters(self):
        code = tuple((1,) * many + (0,) + (1,) * (59 - many) for many in range(24))
        self.assertIsNone(clash(code))
        self.assertEqual(clash(code[:23] + (code[22][:30],)), (22, 23))


class TestIsKept(unittest.TestCase):
    def test_kept(self):
        for code in (((),), ((7, 7),), ((0,), (1,)), ((0, 5), (1,)), ((0, 0), (0, 1), (1,)), ((-4,), (10 ** 40,))):
            self.assertIs(is_kept(code), True)

    def test_words_that_do_not_rise(self):
        for code in (((1,), (0,)), ((0, 1), (0, 0), (1,)), ((0, 0), (1,), (0, 1)), ((10 ** 40,), (-4,))):
            self.assertIsNone(clash(code))
            self.assertIs(is_kept(code), False)

    def test_words_that_clash(self):
        for code in (((0,), (0, 1)), ((), (0,)), ((0,), (0,)), ((0,), (1,), (1, 0)), ((0,), (0, 1), (1,))):
            self.assertIs(is_kept(code), False)

    def test_as_the_words_of_the_point_tell_for_many_codes(self):
        for code in SOME_CODES:
            rises = all(code[k] < code[k + 1] for k in range(len(code) - 1))
            self.assertIs(is_kept(code), rises and not clashes_by_words(code), code)


class TestIsLean(unittest.TestCase):
    def test_lean(self):
        for code in LEAN_CODES:
            self.assertIs(is_lean(code), True, code)

    def test_of_one_thing_the_empty_word_alone(self):
        for word in ((0,), (1,), (0, 1), (-3,), (0,) * 60):
            self.assertIs(is_kept((word,)), True)
            self.assertIs(is_lean((word,)), False)

    def test_kept_with_a_lone_knot(self):
        for code in (((0,), (1, 0)), ((0, 0), (0, 1)), ((0,), (1, 1, 0), (1, 1, 1)), ((-5, 2), (0,))):
            self.assertIs(is_kept(code), True)
            self.assertIs(is_lean(code), False)

    def test_without_lone_knots_but_not_kept(self):
        for code in (((1,), (0,)), ((0, 1), (0, 0), (1,)), ((0,), (0,)), ((), (0,), (1,)), ((0,), (0, 0), (0, 1))):
            self.assertIs(is_lean(code), False)

    def test_as_the_words_of_the_point_tell_for_many_codes(self):
        for code in SOME_CODES:
            lone = [knot for knot in knots_by_words(code) if len(ways_by_words(code, knot)) == 1]
            self.assertIs(is_lean(code), is_kept(code) and not lone, code)


class TestKnots(unittest.TestCase):
    def test_of_one_thing(self):
        self.assertEqual(knots_of(((),)), [])
        self.assertEqual(lone_knots(((),)), [])
        self.assertEqual(knots_of(((4,),)), [()])
        self.assertEqual(lone_knots(((4,),)), [()])
        self.assertEqual(knots_of(((4, 2, 4),)), [(), (4,), (4, 2)])
        self.assertEqual(lone_knots(((4, 2, 4),)), [(), (4,), (4, 2)])

    def test_ascending_each_once(self):
        code = ((1, 1, 0), (0, 1), (1, 0, 0), (0, 0), (1, 1, 1))
        self.assertEqual(knots_of(code), [(), (0,), (1,), (1, 0), (1, 1)])
        self.assertEqual(lone_knots(code), [(1, 0)])

    def test_lone_knots_are_ascending(self):
        code = ((2, 0, 0), (1, 5), (0, 1), (2, 0, 1))
        self.assertEqual(knots_of(code), [(), (0,), (1,), (2,), (2, 0)])
        self.assertEqual(lone_knots(code), [(0,), (1,), (2,)])

    def test_several_words_by_one_way_on_leave_a_knot_lone(self):
        self.assertEqual(lone_knots(((0, 0), (0, 1), (0, 2))), [()])

    def test_the_order_of_the_words_does_not_matter(self):
        words = ((0, 0), (0, 1, 1), (1, 2), (2,))
        for code in itertools.permutations(words):
            self.assertEqual(knots_of(code), [(), (0,), (0, 1), (1,)])
            self.assertEqual(lone_knots(code), [(0, 1), (1,)])

    def test_lean_codes_have_no_lone_knots(self):
        for code in LEAN_CODES:
            self.assertEqual(lone_knots(code), [])

    def test_any_whole_numbers(self):
        code = ((10 ** 40, -1), (-7, 3), (-7, -3))
        self.assertEqual(knots_of(code), [(), (-7,), (10 ** 40,)])
        self.assertEqual(lone_knots(code), [(10 ** 40,)])

    def test_refused_with_the_first_clash(self):
        for ask in (knots_of, lone_knots):
            for code, pair in (
                (((0,), (0,)), (0, 1)),
                (((), (0,)), (0, 1)),
                (((0, 1), (1,), (0,)), (0, 2)),
                (((2,), (0,), (1, 0), (1,), (0, 0)), (1, 4)),
            ):
                with self.assertRaises(Clash) as caught:
                    ask(code)
                self.assertEqual((caught.exception.one, caught.exception.other), pair)

    def test_as_the_words_of_the_point_tell_for_many_codes(self):
        for code in SOME_CODES:
            if clashes_by_words(code):
                self.assertRaises(Clash, knots_of, code)
                self.assertRaises(Clash, lone_knots, code)
                continue
            knots = knots_by_words(code)
            self.assertEqual(knots_of(code), knots, code)
            lone = [knot for knot in knots if len(ways_by_words(code, knot)) == 1]
            self.assertEqual(lone_knots(code), lone, code)

    def test_twenty_four_words_of_sixty_letters(self):
        code = tuple((1,) * many + (0,) + (1,) * (59 - many) for many in range(24))
        self.assertEqual(knots_of(code), knots_by_words(code))
        lone = [knot for knot in knots_by_words(code) if len(ways_by_words(code, knot)) == 1]
        self.assertEqual(lone_knots(code), lone)

    def test_a_told_list_that_is_changed_does_not_change_the_next_answer(self):
        code = ((0, 0), (1,))
        for ask, answer in ((knots_of, [(), (0,)]), (lone_knots, [(0,)])):
            told = ask(code)
            self.assertIs(told.__class__, list)
            told.append((9, 9))
            told[0] = (8,)
            self.assertEqual(ask(code), answer)
            self.assertEqual(code, ((0, 0), (1,)))

    def test_nothing_asked_later_changes_what_was_told(self):
        knots, lone = knots_of(((0, 0), (1,))), lone_knots(((0, 0), (1,)))
        knots_of(((1, 1), (0, 1), (2,)))
        lone_knots(((1, 1), (0, 1), (2,)))
        self.assertEqual((knots, lone), ([(), (0,)], [(0,)]))


class TestCost(unittest.TestCase):
    def test_weights_times_prices(self):
        self.assertEqual(cost((1, 3), (10, 100), ((0,), (1,))), 310)
        self.assertEqual(cost((1, 3), (10, 100), ((1,), (0,))), 130)
        self.assertEqual(cost((2, 5, 7), (1, 10, 100), ((0, 0), (0, 2), (1, 1, 1))), 4 + 90 + 1500)

    def test_the_empty_word_costs_nothing(self):
        self.assertEqual(cost((1, 3), (MOST,), ((),)), 0)

    def test_of_codes_with_clashes_too(self):
        self.assertEqual(cost((1, 3), (10, 100, 1000), ((1,), (1,), ())), 330)
        self.assertEqual(cost((1, 3), (10, 100), ((0, 1), (0,))), 140)
        self.assertEqual(cost((1, 3), (10, 100), ((), ())), 0)

    def test_weights_and_prices_to_the_greatest(self):
        self.assertEqual(cost((MOST, MOST), (MOST,), ((1,),)), 10 ** 60)
        self.assertEqual(cost((MOST, 1), (MOST,) * 24, ((0,) * 60,) * 24), 24 * 60 * 10 ** 60)
        self.assertEqual(cost((MOST, MOST - 1), (MOST, 1), ((0,), (1,))), 10 ** 60 + MOST - 1)

    def test_unlike_counts(self):
        for weights, code in (((5,), ((0,), (1,))), ((5, 6), ((0,),)), ((5,) * 24, ((0,),) * 23), ((5,) * 23, ((0,),) * 24)):
            self.assertRaises(Unlike, cost, (1, 2), weights, code)

    def test_numbers_that_are_no_letters(self):
        for number in (-1, -2, 2, 3, MOST, -MOST):
            for code in (((number,), (1,)), ((0,), (number,)), ((0,), (1, 1, number)), ((number, 0), (1,))):
                self.assertRaises(BadWord, cost, (1, 2), (5, 6), code)

    def test_as_many_letters_as_prices(self):
        self.assertEqual(cost((1, 2, 3), (5, 6), ((0,), (2,))), 23)
        self.assertRaises(BadWord, cost, (1, 2, 3), (5, 6), ((0,), (3,)))

    def test_the_same_question_has_the_same_answer(self):
        first = cost((1, 3), (10, 100), ((0,), (1,)))
        cost((2, 2), (7, 7), ((0, 0), (1,)))
        self.assertEqual(cost((1, 3), (10, 100), ((0,), (1,))), first)


if __name__ == "__main__":
    unittest.main()
