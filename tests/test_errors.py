"""Point [0.5] and the interface's section on lettertoll/errors.py."""

import copy
import inspect
import unittest

from lettertoll import errors
from lettertoll.codes import cost
from lettertoll.errors import BadLetter, BadRow, BadWord, Clash, TollError, Unlike

OF_A_TEXT = (
    "BadPrices", "BadWeights", "BadWord", "Unlike", "NoThing", "NoReading",
    "NotCheapest", "BadSpelling", "BadNumber", "TooMany", "BadName", "NothingLeft",
)
ALL = OF_A_TEXT + ("Clash", "BadLetter", "BadRow")


def made(name):
    kind = getattr(errors, name)
    if name in OF_A_TEXT:
        return kind("some words")
    if name == "Clash":
        return kind(3, 7)
    return kind(5)


class TestRefusals(unittest.TestCase):
    def test_toll_error_stands_straight_under_value_error(self):
        self.assertEqual(TollError.__bases__, (ValueError,))

    def test_there_are_fifteen_refusals_and_no_other(self):
        told = [name for name, kind in inspect.getmembers(errors, inspect.isclass)]
        self.assertEqual(sorted(told), sorted(ALL + ("TollError",)))
        self.assertEqual(len(ALL), 15)

    def test_each_stands_straight_under_toll_error(self):
        for name in ALL:
            self.assertEqual(getattr(errors, name).__bases__, (TollError,), name)

    def test_each_is_raised_and_taken_as_itself_and_as_its_bases(self):
        for name in ALL:
            for base in (getattr(errors, name), TollError, ValueError):
                with self.assertRaises(base) as caught:
                    raise made(name)
                self.assertEqual(caught.exception.__class__.__name__, name)

    def test_none_is_one_of_the_other_fourteen(self):
        for name in ALL:
            others = [other for other in ALL if other != name]
            self.assertEqual(len(others), 14)
            for other in others:
                self.assertNotIsInstance(made(name), getattr(errors, other))


class TestFields(unittest.TestCase):
    def test_clash_keeps_its_two_numbers_in_their_order(self):
        for one, other in ((0, 1), (3, 7), (7, 3), (-2, 10 ** 30)):
            refusal = Clash(one, other)
            self.assertEqual((refusal.one, refusal.other), (one, other))

    def test_bad_letter_and_bad_row_keep_their_number(self):
        for at in (0, 1, 2000, -4, 10 ** 30):
            self.assertEqual(BadLetter(at).at, at)
            self.assertEqual(BadRow(at).at, at)

    def test_fields_are_each_objects_own(self):
        first, second = Clash(1, 2), Clash(3, 4)
        first.one = 9
        self.assertEqual((second.one, second.other), (3, 4))

    def test_the_fields_are_made_by_their_names_too(self):
        refusal = Clash(other=2, one=1)
        self.assertEqual((refusal.one, refusal.other), (1, 2))
        self.assertEqual((BadLetter(at=4).at, BadRow(at=5).at), (4, 5))

    def test_a_copy_has_the_same_fields(self):
        refusal = copy.copy(Clash(3, 7))
        self.assertEqual((refusal.one, refusal.other), (3, 7))
        self.assertEqual(copy.copy(BadLetter(5)).at, 5)
        self.assertEqual(copy.copy(BadRow(5)).at, 5)

    def test_clash_is_made_of_two_numbers_and_the_others_of_one(self):
        self.assertRaises(TypeError, Clash, 1)
        self.assertRaises(TypeError, Clash, 1, 2, 3)
        for kind in (BadLetter, BadRow):
            self.assertRaises(TypeError, kind)
            self.assertRaises(TypeError, kind, 1, 2)


class TestWhichGoesFirst(unittest.TestCase):
    def test_unlike_goes_ahead_of_bad_word(self):
        self.assertRaises(Unlike, cost, (1, 2), (5,), ((0,), (2,)))
        self.assertRaises(Unlike, cost, (1, 2), (5, 6, 7), ((-1,), (2,)))
        self.assertRaises(BadWord, cost, (1, 2), (5, 6), ((0,), (2,)))


if __name__ == "__main__":
    unittest.main()
