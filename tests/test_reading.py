"""Points [3.1] to [3.4], [0.4] and the interface's section on lettertoll/reading.py."""

import itertools
import random
import unittest

from lettertoll.errors import BadLetter, Clash, NoReading, NothingLeft, NoThing
from lettertoll.reading import Reader, read, written
from tests.by_trial import MOST, read_by_words

COMB = tuple((1,) * many + (0,) for many in range(23)) + ((1,) * 23,)
LONG = tuple((1,) * many + (0,) + (1,) * (59 - many) for many in range(24))

CODES = (
    ((0,), (1,)),
    ((1,), (0,)),
    ((0,), (1, 0), (1, 1)),
    ((1, 1), (0,), (1, 0)),
    ((2, 0), (0, 1, 1), (1,), (0, 0)),
    ((7,),),
    ((1, 0, 1),),
    ((-5, 3), (10 ** 40,), (-5, -5)),
)


def rows_of(code):
    chance = random.Random(31)
    yield []
    for thing in range(len(code)):
        yield [thing]
    for size in (2, 3, 17, 60):
        yield [chance.randrange(len(code)) for at in range(size)]


class TestWritten(unittest.TestCase):
    def test_words_one_behind_the_other(self):
        code = ((0,), (1, 0), (1, 1))
        self.assertEqual(written(code, [1, 0, 2, 2]), (1, 0, 0, 1, 1, 1, 1))
        self.assertEqual(written(code, (2, 1)), (1, 1, 1, 0))
        self.assertEqual(written(code, [0]), (0,))

    def test_no_things(self):
        for code in CODES + (((),),):
            self.assertEqual(written(code, []), ())
            self.assertEqual(written(code, ()), ())

    def test_lists_and_tuples_and_the_kind_told(self):
        for code in CODES:
            for row in rows_of(code):
                letters = tuple(letter for thing in row for letter in code[thing])
                self.assertEqual(written(code, row), letters)
                self.assertEqual(written(code, tuple(row)), letters)
                self.assertIs(written(code, row).__class__, tuple)

    def test_in_a_code_of_the_empty_word(self):
        self.assertEqual(written(((),), [0, 0, 0]), ())

    def test_four_hundred_things(self):
        row = [at % 24 for at in range(400)]
        self.assertEqual(len(written(LONG, row)), 400 * 60)
        self.assertEqual(written(COMB, row), tuple(letter for thing in row for letter in COMB[thing]))

    def test_numbers_that_are_no_things(self):
        for code in CODES + (((),),):
            for number in (-1, -len(code), len(code), len(code) + 1, MOST, -MOST):
                for row in ([number], [0, number], [number, 0], [0] * 399 + [number]):
                    self.assertRaises(NoThing, written, code, row)
                    self.assertRaises(NoThing, written, code, tuple(row))

    def test_clash_goes_ahead_of_no_thing(self):
        for row in ([], [0], [5], [-1]):
            with self.assertRaises(Clash) as caught:
                written(((0,), (1, 1), (1,)), row)
            self.assertEqual((caught.exception.one, caught.exception.other), (1, 2))

    def test_what_is_handed_in_is_not_changed(self):
        row = [1, 0, 2]
        written(((0,), (1, 0), (1, 1)), row)
        self.assertEqual(row, [1, 0, 2])


class TestRead(unittest.TestCase):
    def test_some(self):
        code = ((0,), (1, 0), (1, 1))
        self.assertEqual(read(code, (1, 0, 0, 1, 1, 1, 1)), ([1, 0, 2, 2], ()))
        self.assertEqual(read(code, (1, 0, 0, 1)), ([1, 0], (1,)))
        self.assertEqual(read(code, ()), ([], ()))

    def test_rows_that_were_written_are_read_back_cut_at_every_place(self):
        for code in CODES:
            for row in rows_of(code):
                letters = written(code, row)
                self.assertEqual(read(code, letters), (row, ()))
                for cut in range(len(letters) + 1):
                    things, rest = read(code, letters[:cut])
                    self.assertEqual((things, rest), read_by_words(code, letters[:cut]))
                    self.assertEqual(things, row[:len(things)])
                    behind, last = read(code, rest + letters[cut:])
                    self.assertEqual((things + behind, last), (row, ()))

    def test_all_short_rows_of_letters(self):
        for code in CODES[:7]:
            for size in range(7):
                for letters in itertools.product((0, 1, 2), repeat=size):
                    asked = read_by_words(code, letters)
                    if asked is not None:
                        self.assertEqual(read(code, letters), asked)
                        continue
                    at = max(cut for cut in range(size + 1) if read_by_words(code, letters[:cut]) is not None)
                    with self.assertRaises(BadLetter) as caught:
                        read(code, letters)
                    self.assertEqual(caught.exception.at, at)

    def test_kinds(self):
        told = read(((0,), (1, 0), (1, 1)), (0, 1))
        self.assertEqual([told.__class__, told[0].__class__, told[1].__class__], [tuple, list, tuple])

    def test_the_place_of_a_bad_letter(self):
        code = ((0,), (1, 0, 0), (1, 0, 1), (1, 1))
        for letters, at in (
            ((2,), 0), ((-1,), 0), ((0, 0, 2), 2), ((0, 1, 2), 2), ((0, 1, 0, 7), 3), ((1, 0, -1, 2), 2),
            ((0,) * 1999 + (2,), 1999), ((MOST,), 0), ((0, -MOST), 1), ((1, 0, 1, 0, 5, 9), 4),
        ):
            with self.assertRaises(BadLetter) as caught:
                read(code, letters)
            self.assertEqual(caught.exception.at, at)

    def test_a_letter_that_goes_on_from_another_knot_alone(self):
        with self.assertRaises(BadLetter) as caught:
            read(((0, 1), (1, 0)), (0, 1, 0, 0))
        self.assertEqual(caught.exception.at, 3)

    def test_a_code_of_one_word_that_is_not_empty(self):
        self.assertEqual(read(((1, 0),), (1, 0, 1, 0, 1)), ([0, 0], (1,)))
        self.assertRaises(BadLetter, read, ((1, 0),), (1, 1))

    def test_a_code_of_the_empty_word(self):
        for letters in ((), (0,), (-1, 5)):
            self.assertRaises(NoReading, read, ((),), letters)

    def test_clash_goes_ahead_of_no_reading_and_bad_letter(self):
        for code, pair in ((((0,), ()), (0, 1)), (((0, 0), (1,), ()), (0, 2)), (((1,), (0,), (0, 1)), (1, 2))):
            for letters in ((), (0,), (9,)):
                with self.assertRaises(Clash) as caught:
                    read(code, letters)
                self.assertEqual((caught.exception.one, caught.exception.other), pair)

    def test_two_thousand_letters(self):
        row = [at % 24 for at in range(33)]
        self.assertEqual(read(LONG, written(LONG, row)), (row, ()))
        self.assertEqual(read(((0,), (1,)), (0, 1) * 1000), ([0, 1] * 1000, ()))

    def test_a_told_list_that_is_changed_does_not_change_the_next_answer(self):
        code = ((0,), (1, 0), (1, 1))
        things = read(code, (0, 1, 0))[0]
        things.append(7)
        things[0] = 9
        self.assertEqual(read(code, (0, 1, 0)), ([0, 1], ()))


class TestReader(unittest.TestCase):
    def test_refuses_as_read_does(self):
        self.assertRaises(NoReading, Reader, ((),))
        for code, pair in ((((0,), ()), (0, 1)), (((1,), (0,), (0, 1)), (1, 2))):
            with self.assertRaises(Clash) as caught:
                Reader(code)
            self.assertEqual((caught.exception.one, caught.exception.other), pair)

    def test_letter_by_letter(self):
        for code in CODES:
            for row in rows_of(code):
                reader = Reader(code)
                taken = ()
                self.assertEqual((reader.told(), reader.rest()), ([], ()))
                for letter in written(code, row):
                    taken += (letter,)
                    asked = read_by_words(code, taken)
                    told = reader.take(letter)
                    self.assertEqual(told, asked[0][-1] if asked[1] == () else None)
                    self.assertEqual((reader.told(), reader.rest()), asked)

    def test_the_things_told_by_take(self):
        reader = Reader(((0,), (1, 0), (1, 1)))
        self.assertEqual([reader.take(letter) for letter in (0, 1, 0, 1, 1, 0)], [0, None, 1, None, 2, 0])

    def test_kinds(self):
        reader = Reader(((0,), (1, 0), (1, 1)))
        reader.take(1)
        self.assertIs(reader.told().__class__, list)
        self.assertIs(reader.rest().__class__, tuple)
        self.assertIsNone(reader.back())

    def test_a_bad_letter_takes_nothing(self):
        reader = Reader(((0,), (1, 0), (1, 1, 1)))
        for number in (2, -1, MOST, -MOST):
            with self.assertRaises(BadLetter) as caught:
                reader.take(number)
            self.assertEqual(caught.exception.at, 0)
        reader.take(0)
        reader.take(1)
        reader.take(1)
        for number in (0, 2, -1):
            with self.assertRaises(BadLetter) as caught:
                reader.take(number)
            self.assertEqual(caught.exception.at, 3)
            self.assertEqual((reader.told(), reader.rest()), ([0], (1, 1)))
        reader.back()
        with self.assertRaises(BadLetter) as caught:
            reader.take(5)
        self.assertEqual(caught.exception.at, 2)
        self.assertEqual(reader.take(0), 1)
        self.assertEqual((reader.told(), reader.rest()), ([0, 1], ()))

    def test_nothing_left(self):
        reader = Reader(((0,), (1, 0), (1, 1)))
        self.assertRaises(NothingLeft, reader.back)
        reader.take(1)
        reader.back()
        self.assertRaises(NothingLeft, reader.back)
        self.assertRaises(BadLetter, reader.take, 2)
        self.assertRaises(NothingLeft, reader.back)
        self.assertEqual((reader.told(), reader.rest()), ([], ()))
        self.assertEqual(reader.take(0), 0)

    def test_take_and_back_in_any_order(self):
        chance = random.Random(32)
        for code in CODES + (COMB, LONG):
            numbers = sorted({letter for word in code for letter in word}) + [99]
            reader, taken = Reader(code), ()
            for at in range(400):
                if chance.random() < 0.4:
                    if taken:
                        self.assertIsNone(reader.back())
                        taken = taken[:-1]
                    else:
                        self.assertRaises(NothingLeft, reader.back)
                else:
                    letter = chance.choice(numbers)
                    asked = read_by_words(code, taken + (letter,))
                    if asked is None:
                        with self.assertRaises(BadLetter) as caught:
                            reader.take(letter)
                        self.assertEqual(caught.exception.at, len(taken))
                    else:
                        taken += (letter,)
                        self.assertEqual(reader.take(letter), asked[0][-1] if asked[1] == () else None)
                self.assertEqual((reader.told(), reader.rest()), read_by_words(code, taken))

    def test_back_over_whole_words(self):
        reader = Reader(((0,), (1, 0), (1, 1)))
        states = []
        letters = (0, 0, 1, 0, 1, 1, 1)
        for letter in letters:
            states.append((reader.told(), reader.rest()))
            reader.take(letter)
        for state in reversed(states):
            reader.back()
            self.assertEqual((reader.told(), reader.rest()), state)

    def test_two_readers_side_by_side(self):
        code = ((0,), (1, 0), (1, 1))
        one, other = Reader(code), Reader(code)
        one.take(0)
        other.take(1)
        one.take(1)
        self.assertEqual((one.told(), one.rest()), ([0], (1,)))
        self.assertEqual((other.told(), other.rest()), ([], (1,)))
        other.back()
        self.assertEqual((one.told(), one.rest()), ([0], (1,)))
        self.assertRaises(NothingLeft, other.back)
        third = Reader(((1, 1), (0, 1)))
        self.assertEqual(one.take(1), 2)
        third.take(1)
        self.assertEqual(third.take(1), 0)
        self.assertEqual((one.told(), other.told(), third.told()), ([0, 2], [], [0]))

    def test_a_told_list_that_is_changed_changes_nothing(self):
        reader = Reader(((0,), (1, 0), (1, 1)))
        reader.take(0)
        told = reader.told()
        told.append(5)
        told[0] = 7
        self.assertEqual(reader.told(), [0])
        earlier = reader.told()
        reader.take(0)
        self.assertEqual(earlier, [0])
        self.assertEqual(reader.told(), [0, 0])
        reader.back()
        reader.back()
        self.assertEqual(earlier, [0])
        self.assertRaises(NothingLeft, reader.back)


if __name__ == "__main__":
    unittest.main()
