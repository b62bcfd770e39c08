"""Points [2.3], [2.4], [2.5], [0.4] and the interface's section on lettertoll/trees.py."""

import functools
import itertools
import random
import unittest

from lettertoll.codes import is_lean
from lettertoll.errors import BadSpelling, BadWord, Clash, Unlike
from lettertoll.trees import code_by, code_of, spelling_of, tree_of
from tests.by_trial import MOST, clash_there, lean_codes, spelling_by_words, words_up_to

COMB = tuple((1,) * many + (0,) for many in range(23)) + ((1,) * 23,)
FLAT = tuple((one, other) for one in range(6) for other in range(4))


@functools.lru_cache(maxsize=None)
def all_spellings(letters, things):
    return {tuple(spelling_by_words(code)) for code in lean_codes(letters, things)}


def codes_free_of_clashes(letters, longest, most):
    for things in range(1, most + 1):
        for code in itertools.permutations(words_up_to(letters, longest), things):
            if not any(clash_there(one, other) for one, other in itertools.combinations(code, 2)):
                yield code


def tree_by_words(code, letters, knot=()):
    """The tree, each of its knots asked of the whole code."""
    if knot in code:
        return code.index(knot)
    if not any(word[:len(knot)] == knot for word in code):
        return None
    return tuple(tree_by_words(code, letters, knot + (letter,)) for letter in range(letters))


def some_lean_code(chance, letters, things):
    if things == 1:
        return ((),)
    ways = chance.randint(2, min(letters, things))
    used = sorted(chance.sample(range(letters), ways))
    ends = sorted(chance.sample(range(1, things), ways - 1)) + [things]
    code, start = (), 0
    for letter, end in zip(used, ends):
        code += tuple((letter,) + word for word in some_lean_code(chance, letters, end - start))
        start = end
    return code


class TestTrees(unittest.TestCase):
    def test_of_one_empty_word(self):
        for letters in range(2, 7):
            self.assertEqual(tree_of(((),), letters), 0)
        self.assertEqual(code_of(0), ((),))

    def test_of_one_word_that_is_not_empty(self):
        self.assertEqual(tree_of(((1,),), 2), (None, 0))
        self.assertEqual(tree_of(((0, 2),), 3), ((None, None, 0), None, None))
        self.assertEqual(code_of((None, 0)), ((1,),))
        self.assertEqual(code_of(((None, None, 0), None, None)), ((0, 2),))

    def test_of_several_words(self):
        self.assertEqual(tree_of(((0,), (1, 0), (1, 1)), 2), (0, (1, 2)))
        self.assertEqual(tree_of(((1, 1), (0,), (1, 0)), 2), (1, (2, 0)))
        self.assertEqual(tree_of(((2,), (0, 1)), 3), ((None, 1, None), None, 0))

    def test_more_letters_than_the_code_uses(self):
        self.assertEqual(tree_of(((1,), (0,)), 4), (1, 0, None, None))
        self.assertEqual(tree_of(((0, 0), (0, 1)), 3), ((0, 1, None), None, None))
        self.assertEqual(code_of((1, 0, None, None)), ((1,), (0,)))

    def test_as_the_words_of_the_point_tell_and_back(self):
        for letters, longest, most in ((2, 3, 3), (3, 2, 3)):
            for code in codes_free_of_clashes(letters, longest, most):
                for more in (letters, letters + 1):
                    tree = tree_of(code, more)
                    self.assertEqual(tree, tree_by_words(code, more), code)
                    self.assertEqual(code_of(tree), code)

    def test_words_in_any_order(self):
        words = ((0, 0), (0, 1, 1), (1, 2), (2,))
        for order in itertools.permutations(range(4)):
            code = tuple(words[thing] for thing in order)
            place = {words[thing]: at for at, thing in enumerate(order)}
            tree = ((place[(0, 0)], (None, place[(0, 1, 1)], None), None), (None, None, place[(1, 2)]), place[(2,)])
            self.assertEqual(tree_of(code, 3), tree)
            self.assertEqual(code_of(tree), code)

    def test_twenty_four_things_and_sixty_letters(self):
        long = tuple((1,) * many + (0,) + (1,) * (59 - many) for many in range(24))
        for code in (COMB, COMB[::-1], FLAT, FLAT[5:] + FLAT[:5], long, long[::-1]):
            tree = tree_of(code, 6)
            self.assertEqual(len(tree), 6)
            self.assertEqual(code_of(tree), code)

    def test_trees_are_tuples_and_codes_of_tuples(self):
        tree = tree_of(((0,), (1, 0), (1, 1)), 2)
        self.assertIs(tree.__class__, tuple)
        self.assertIs(tree[1].__class__, tuple)
        self.assertIs(code_of(tree).__class__, tuple)
        self.assertEqual({word.__class__ for word in code_of(tree)}, {tuple})

    def test_numbers_that_are_no_letters(self):
        for letters in (2, 3, 6):
            for number in (-1, -letters, letters, letters + 1, MOST, -MOST):
                for code in (((number,),), ((0,), (number,)), ((0,), (1, number)), ((number, 0), (1,))):
                    self.assertRaises(BadWord, tree_of, code, letters)
            self.assertEqual(len(tree_of(((letters - 1,), (0,)), letters)), letters)

    def test_clashes(self):
        for code, pair in (
            (((0,), (0,)), (0, 1)),
            (((), (1,)), (0, 1)),
            (((0, 1), (1,), (0,)), (0, 2)),
            (((1,), (0,), (1, 1), (0, 1)), (0, 2)),
        ):
            with self.assertRaises(Clash) as caught:
                tree_of(code, 2)
            self.assertEqual((caught.exception.one, caught.exception.other), pair)

    def test_bad_word_goes_ahead_of_clash(self):
        self.assertRaises(BadWord, tree_of, ((0,), (0,), (2,)), 2)
        self.assertRaises(BadWord, tree_of, ((0, 2), (0,)), 2)
        self.assertRaises(BadWord, tree_of, ((), (-1,)), 2)
        self.assertRaises(Clash, tree_of, ((0,), (0,), (2,)), 3)


class TestSpelling(unittest.TestCase):
    def test_some(self):
        self.assertEqual(spelling_of(((),)), [])
        self.assertEqual(spelling_of(((0,), (1,))), [(0, 1), (1, 1)])
        self.assertEqual(spelling_of(((0,), (1, 0), (1, 1))), [(0, 1), (1, 2), (0, 1), (1, 1)])
        self.assertEqual(spelling_of(((0, 0), (0, 1), (1,))), [(0, 2), (0, 1), (1, 1), (1, 1)])
        self.assertEqual(spelling_of(((1, 0), (1, 3), (4,))), [(1, 2), (0, 1), (3, 1), (4, 1)])

    def test_letters_far_apart_stand_in_their_order(self):
        code = ((-9, -9), (-9, 0), (8, 1), (8, 64), (10 ** 40,))
        self.assertEqual(spelling_of(code), [(-9, 2), (-9, 1), (0, 1), (8, 2), (1, 1), (64, 1), (10 ** 40, 1)])
        self.assertEqual(spelling_of(tuple((8 * letter,) for letter in range(9))), [(8 * letter, 1) for letter in range(9)])

    def test_as_the_words_of_the_point_tell_for_all_lean_codes_of_few_things(self):
        for letters, most in ((2, 7), (3, 5), (4, 4), (6, 3)):
            for things in range(1, most + 1):
                codes = lean_codes(letters, things)
                spellings = [spelling_of(code) for code in codes]
                self.assertEqual(spellings, [spelling_by_words(code) for code in codes])
                self.assertEqual(len({tuple(spelling) for spelling in spellings}), len(codes))
                for code, spelling in zip(codes, spellings):
                    self.assertEqual(code_by(letters, things, spelling), code)

    def test_one_to_twenty_four_things_and_back(self):
        chance = random.Random(241)
        for things in range(1, 25):
            for letters in range(2, 7):
                for again in range(3):
                    code = some_lean_code(chance, letters, things)
                    self.assertTrue(is_lean(code))
                    spelling = spelling_of(code)
                    self.assertEqual(spelling, spelling_by_words(code))
                    self.assertEqual(code_by(letters, things, spelling), code)
                    self.assertEqual(code_by(6, things, spelling), code)
        for code in (COMB, FLAT):
            self.assertEqual(spelling_of(code), spelling_by_words(code))
            self.assertEqual(code_by(6, 24, spelling_of(code)), code)

    def test_kinds(self):
        spelling = spelling_of(COMB)
        self.assertIs(spelling.__class__, list)
        self.assertEqual({pair.__class__ for pair in spelling}, {tuple})
        code = code_by(2, 24, spelling)
        self.assertIs(code.__class__, tuple)
        self.assertEqual({word.__class__ for word in code}, {tuple})
        self.assertEqual(code_by(2, 1, []), ((),))

    def test_clash_goes_ahead_of_unlike(self):
        for code in (((0,), (0,)), ((1,), (0,), (0, 1)), ((), (0,)), ((1, 0), (1,))):
            self.assertRaises(Clash, spelling_of, code)
        for code in (((1,), (0,)), ((0,),), ((0,), (1, 0)), ((0, 0), (0, 1)), ((0, 1), (0, 0), (1,))):
            self.assertRaises(Unlike, spelling_of, code)

    def test_a_told_list_that_is_changed_does_not_change_the_next_answer(self):
        code = ((0,), (1, 0), (1, 1))
        told = spelling_of(code)
        told[0] = (9, 9)
        told.pop()
        self.assertEqual(spelling_of(code), [(0, 1), (1, 2), (0, 1), (1, 1)])
        handed = spelling_of(code)
        first = code_by(2, 3, handed)
        handed[0] = (1, 1)
        self.assertEqual(first, code)
        self.assertEqual(code_by(2, 3, spelling_of(code)), code)


class TestBadSpelling(unittest.TestCase):
    def refused(self, letters, things, spelling):
        handed = list(spelling)
        self.assertRaises(BadSpelling, code_by, letters, things, handed)
        self.assertEqual(handed, list(spelling))

    def asked(self, letters, things, spelling):
        """The list spells a lean code just where one of them is spelled so."""
        if tuple(spelling) in all_spellings(letters, things):
            handed = list(spelling)
            self.assertEqual(spelling_by_words(code_by(letters, things, handed)), spelling)
            self.assertEqual(handed, spelling)
        else:
            self.refused(letters, things, spelling)

    def test_all_short_lists_of_pairs(self):
        for letters, things, longest in ((2, 1, 2), (2, 2, 3), (2, 3, 4), (3, 2, 3), (3, 3, 3)):
            right = all_spellings(letters, things)
            pairs = list(itertools.product(range(-1, letters + 1), range(things + 1)))
            for size in range(longest + 1):
                for spelling in itertools.product(pairs, repeat=size):
                    if spelling in right:
                        self.assertEqual(spelling_by_words(code_by(letters, things, list(spelling))), list(spelling))
                    else:
                        self.assertRaises(BadSpelling, code_by, letters, things, list(spelling))

    def test_pairs_left_out_told_twice_and_put_in(self):
        for letters, things in ((2, 4), (3, 4), (2, 5)):
            for code in lean_codes(letters, things)[::3]:
                spelling = spelling_by_words(code)
                for at in range(len(spelling)):
                    self.asked(letters, things, spelling[:at] + spelling[at + 1:])
                    self.asked(letters, things, spelling[:at + 1] + spelling[at:])
                for at in range(len(spelling) + 1):
                    for pair in ((0, 1), (1, 1), (letters - 1, 1), (1, 2), (0, 0), (letters, 1), (-1, 1)):
                        self.asked(letters, things, spelling[:at] + [pair] + spelling[at:])

    def test_pairs_turned_in_their_letter_or_their_count(self):
        for letters, things in ((2, 4), (3, 4), (2, 5)):
            for code in lean_codes(letters, things)[::3]:
                spelling = spelling_by_words(code)
                for at, (letter, many) in enumerate(spelling):
                    for turned in list(range(-2, letters + 2)) + [MOST, -MOST]:
                        self.asked(letters, things, spelling[:at] + [(turned, many)] + spelling[at + 1:])
                    for turned in list(range(-2, things + 3)) + [MOST, -MOST]:
                        self.asked(letters, things, spelling[:at] + [(letter, turned)] + spelling[at + 1:])

    def test_many_things_with_a_pair_turned(self):
        for code in (COMB, FLAT):
            spelling = spelling_by_words(code)
            for at, (letter, many) in enumerate(spelling):
                self.refused(6, 24, spelling[:at] + spelling[at + 1:])
                self.refused(6, 24, spelling[:at + 1] + spelling[at:])
                for turned in (-1, -6, 6, 7, MOST, -MOST):
                    self.refused(6, 24, spelling[:at] + [(turned, many)] + spelling[at + 1:])
                for turned in (many - 1, many + 1, 0, -many, 24, 25, MOST, -MOST):
                    self.refused(6, 24, spelling[:at] + [(letter, turned)] + spelling[at + 1:])

    def test_another_count_of_things_or_letters(self):
        for things in range(1, 6):
            for code in lean_codes(3, things):
                spelling = spelling_by_words(code)
                for other in range(1, 25):
                    if other != things:
                        self.refused(3, other, spelling)
                used = max([letter for word in code for letter in word], default=0)
                if used == 2:
                    self.refused(2, things, spelling)
                else:
                    self.assertEqual(code_by(2, things, spelling), code)

    def test_no_things(self):
        for things in (0, -1):
            self.refused(2, things, [])
            self.refused(2, things, [(0, 1), (1, 1)])

    def test_a_lone_knot_is_not_spelled(self):
        self.refused(2, 2, [(0, 2), (0, 1), (1, 1)])
        self.refused(2, 1, [(0, 1)])
        self.refused(3, 3, [(0, 1), (1, 2), (2, 2), (0, 1), (1, 1)])

    def test_letters_that_do_not_rise(self):
        self.refused(3, 2, [(1, 1), (0, 1)])
        self.refused(3, 2, [(1, 1), (1, 1)])
        self.refused(3, 3, [(0, 1), (2, 1), (1, 1)])

    def test_four_hundred_pairs(self):
        self.refused(6, 24, [(0, 1)] * 400)
        self.refused(6, 24, [(0, 23)] * 400)
        self.refused(6, 24, [(0, many) for many in range(23, 0, -1)] + [(1, 1)] * 377)


if __name__ == "__main__":
    unittest.main()
