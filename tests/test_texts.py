"""Points [10.1], [10.2], [10.3] and the interface's section on lettertoll/texts.py."""

import itertools
import random
import string
import unittest

from lettertoll.errors import BadName, BadPrices, BadRow, BadWeights, BadWord
from lettertoll.texts import book_text, read_book, read_word, word_text
from tests.by_trial import MOST, some_books

TEXT = "letter a 1\nletter b 3\nthing x 5\nthing yy 2\nthing a 2\n"
BOOK = (("a", "b"), (1, 3), ("x", "yy", "a"), (5, 2, 2))

LETTERS = "letter a 1\nletter b 3\n"
THINGS = "thing x 5\n"

# Rows that are none of the two kinds; each one is put among good ones.
BAD_ROWS = [
    "", " ", "letter", "thing", "letter a", "thing x", "letters a 1", "things x 1", "Letter a 1", "THING x 1", "a 1",
    "letter a 1 ", " letter a 1", "letter  a 1", "letter a  1", "thing x 1 ", " thing x 1", "thing  x 1", "thing x  1",
    "letter a 1 1", "thing x 1 1", "letter a b 1", "thing x y 1", "letter ab 1", "letter abcdefgh 1",
    "thing abcdefghi 1", "thing abcdefghijklmnop 1", "letter A 1", "letter 1 1", "letter . 1", "letter - 1", "letter _ 1",
    "thing X 1", "thing xX 1", "thing x1 1", "thing x-y 1", "thing . 1", "thing x. 1", "thing x_ 1", "thing ~ 1",
    "thing ` 1", "thing { 1", "letter ` 1", "letter { 1", "letter @ 1", "letter [ 1",
    "letter a 01", "letter a 00", "letter a 0001", "thing x 01", "thing x 00", "letter a " + "1" * 41, "thing x " + "1" * 41,
    "letter a 0" + "1" * 39, "thing x " + "0" * 40, "letter a -1", "thing x -1", "letter a +1", "thing x +1",
    "letter a 1.0", "thing x 1_0", "letter a 1e3", "letter a x", "thing x one", "letter a 1,", "thing x /", "thing x :",
    "thing x 1/", "thing x 1:", "letter a 0x1", "letter a ", "thing x ", "letter  1", "thing  1", "lettera 1", "thingx 1",
    "letter thing 1", "letter a1", "thing x1", "x thing 1", "1 thing x", "# letter a 1", "letter a 1;",
]


class TestBookText(unittest.TestCase):
    def test_some(self):
        self.assertEqual(book_text(("a", "b"), (1, 3), ("x", "yy", "a"), (5, 2, 2)), TEXT)
        self.assertEqual(
            book_text(("q", "p"), (MOST, 10), ("z",), (MOST,)),
            "letter q 1" + "0" * 30 + "\nletter p 10\nthing z 1" + "0" * 30 + "\n",
        )

    def test_books_written_and_read_back(self):
        chance = random.Random(151)
        for prices, weights in some_books(152, 40, (2, 6), (1, 24), MOST) + some_books(153, 10, (2, 6), (1, 24), 20):
            signs = tuple(chance.sample(string.ascii_lowercase, len(prices)))
            names = []
            while len(names) < len(weights):
                name = "".join(chance.choice("abcxyz") for at in range(chance.randint(1, 8)))
                if name not in names:
                    names.append(name)
            book = (signs, prices, tuple(names), weights)
            text = book_text(*book)
            self.assertEqual(read_book(text), book)
            self.assertEqual(book_text(*read_book(text)), text)
            rows = [f"letter {sign} {price}\n" for sign, price in zip(signs, prices)]
            rows += [f"thing {name} {weight}\n" for name, weight in zip(names, weights)]
            self.assertEqual(text, "".join(rows))


class TestReadBook(unittest.TestCase):
    def bad_row(self, text, at):
        with self.assertRaises(BadRow) as caught:
            read_book(text)
        self.assertEqual(caught.exception.at, at, text)

    def test_some(self):
        self.assertEqual(read_book(TEXT), BOOK)

    def test_kinds(self):
        told = read_book(TEXT)
        self.assertEqual([told.__class__] + [part.__class__ for part in told], [tuple] * 5)

    def test_all_signs_and_names_of_one_to_eight(self):
        for sign in string.ascii_lowercase:
            other = "b" if sign == "a" else "a"
            self.assertEqual(read_book(f"letter {sign} 1\nletter {other} 1\nthing {sign} 1\n")[0], (sign, other))
        for size in range(1, 9):
            name = "zyxwvuts"[:size]
            self.assertEqual(read_book(LETTERS + f"thing {name} 7\n")[2], (name,))

    def test_names_like_the_words_of_rows(self):
        text = LETTERS + "thing letter 4\nthing thing 5\nthing a 6\nthing b 7\n"
        self.assertEqual(read_book(text)[2], ("letter", "thing", "a", "b"))

    def test_rows_that_are_none_of_the_two(self):
        for row in BAD_ROWS:
            for ahead, behind in (("", TEXT), (LETTERS, ""), (LETTERS, THINGS), (LETTERS + THINGS, "thing y 1\n"), ("", "")):
                self.bad_row(ahead + row + "\n" + behind, ahead.count("\n") + 1)

    def test_the_number_of_the_first_bad_row(self):
        rows = ["letter a 1", "letter b 3", "letter c 3", "thing x 5", "thing y 5", "thing z 5"]
        for one, other in itertools.product(range(6), repeat=2):
            turned = list(rows)
            turned[one] = "thing x 01"
            turned[other] = "letter aa 1"
            self.bad_row("\n".join(turned) + "\n", min(one, other) + 1)
            self.bad_row("\n".join(turned), min(one, other) + 1)

    def test_a_letters_row_behind_a_things(self):
        self.bad_row("thing x 5\nletter a 1\nletter b 3\n", 2)
        self.bad_row("letter a 1\nthing x 5\nletter b 3\n", 3)
        self.bad_row("letter a 1\nletter b 3\nthing x 5\nthing y 5\nletter c 3\nletter d 3\n", 5)
        self.bad_row("letter a 1\nthing x 5\nletter a 1\n", 3)
        # A bad row ahead of it goes first.
        self.bad_row("letter a 1\nthing x 05\nletter b 3\n", 2)

    def test_a_last_row_without_its_line_feed(self):
        self.bad_row(TEXT[:-1], 5)
        self.bad_row("letter a 1", 1)
        self.bad_row("x", 1)
        self.bad_row(" ", 1)
        self.bad_row(TEXT + "t", 6)
        self.bad_row(TEXT + " ", 6)
        self.bad_row(LETTERS + THINGS + "thing y 6", 4)
        # A bad row ahead of it goes first.
        self.bad_row("letter a 1\nletter bb 1\nthing x 5", 2)
        self.bad_row("thing x 1\nletter a 1", 2)

    def test_the_text_without_signs_has_no_row(self):
        self.assertRaises(BadPrices, read_book, "")

    def test_line_feeds_too_many(self):
        self.bad_row("\n", 1)
        self.bad_row("\n" + TEXT, 1)
        self.bad_row(TEXT + "\n", 6)
        self.bad_row(LETTERS + "\n" + THINGS, 3)

    def test_numbers_of_1_to_40_figures(self):
        for figures in range(1, 31):
            number = "9" * figures
            self.assertEqual(read_book(f"letter a {number}\nletter b 1\nthing x {number}\n")[1], (int(number), 1))
            self.assertEqual(read_book(f"letter a {number}\nletter b 1\nthing x {number}\n")[3], (int(number),))
        self.assertEqual(read_book(f"letter a {MOST}\nletter b 1\nthing x {MOST}\n")[1], (MOST, 1))
        for figures in range(31, 41):
            number = "9" * figures
            self.assertRaises(BadPrices, read_book, f"letter a {number}\nletter b 1\nthing x 1\n")
            self.assertRaises(BadWeights, read_book, f"letter a 1\nletter b 1\nthing x {number}\n")
        self.bad_row("letter a 1\nletter b " + "9" * 41 + "\nthing x 1\n", 2)
        self.bad_row("letter a 1\nletter b 1\nthing x 1" + "0" * 40 + "\n", 3)

    def test_numbers_that_are_no_prices_and_weights(self):
        for number in ("0", str(MOST + 1), "1" + "0" * 39):
            self.assertRaises(BadPrices, read_book, f"letter a {number}\nletter b 1\nthing x 1\n")
            self.assertRaises(BadPrices, read_book, f"letter a 1\nletter b {number}\nthing x 1\n")
            self.assertRaises(BadWeights, read_book, f"letter a 1\nletter b 1\nthing x {number}\n")
            self.assertRaises(BadWeights, read_book, f"letter a 1\nletter b 1\nthing x 1\nthing y {number}\n")

    def test_too_few_and_too_many_letters_and_things(self):
        for letters in range(9):
            for things in (0, 1, 2, 24, 25, 30):
                text = "".join(f"letter {sign} 1\n" for sign in "abcdefghi"[:letters])
                text += "".join(f"thing t{sign} 1\n" for sign in "abcdefghijklmnopqrstuvwxyzabcde"[:min(things, 26)])
                text += "".join(f"thing u{sign} 1\n" for sign in "abcdefgh"[:max(0, things - 26)])
                if not 2 <= letters <= 6:
                    self.assertRaises(BadPrices, read_book, text)
                elif not 1 <= things <= 24:
                    self.assertRaises(BadWeights, read_book, text)
                else:
                    self.assertEqual(len(read_book(text)[0]), letters)

    def test_signs_and_names_told_twice(self):
        self.assertRaises(BadName, read_book, "letter a 1\nletter a 1\nthing x 5\n")
        self.assertRaises(BadName, read_book, "letter a 1\nletter b 1\nletter a 2\nthing x 5\n")
        self.assertRaises(BadName, read_book, "letter a 1\nletter b 1\nthing x 5\nthing x 6\n")
        self.assertRaises(BadName, read_book, "letter a 1\nletter b 1\nthing x 5\nthing y 6\nthing x 5\n")
        self.assertEqual(read_book("letter a 1\nletter b 1\nthing a 5\nthing b 6\n")[2], ("a", "b"))

    def test_bad_row_ahead_of_bad_name_ahead_of_bad_prices_ahead_of_bad_weights(self):
        twice, dear, heavy = "letter a 0\nletter a 1\n", "letter a 0\nletter b 1\n", "thing x 0\n"
        self.bad_row(twice + heavy + heavy + "thing", 5)
        self.bad_row(twice + heavy + heavy + "letter b 1\n", 5)
        self.assertRaises(BadName, read_book, twice + heavy)
        self.assertRaises(BadName, read_book, dear + heavy + heavy)
        self.assertRaises(BadName, read_book, heavy + heavy)
        self.assertRaises(BadName, read_book, "letter a 1\nletter a 1\n")
        self.assertRaises(BadPrices, read_book, dear + heavy)
        self.assertRaises(BadPrices, read_book, heavy)
        self.assertRaises(BadPrices, read_book, "letter a 1\n")
        self.assertRaises(BadWeights, read_book, LETTERS + heavy)
        self.assertRaises(BadWeights, read_book, LETTERS)

    def test_a_long_text(self):
        text = "".join(f"letter {sign} {MOST}\n" for sign in "abcdef")
        text += "".join(f"thing namename {MOST}\n" for at in range(80))
        self.assertRaises(BadName, read_book, text)
        self.bad_row("x" * 4000, 1)
        self.bad_row("\n" * 4000, 1)

    def test_texts_with_a_sign_turned_put_in_or_left_out(self):
        def rows_right(text):
            """The number of the first bad row, or 0."""
            rows = text.split("\n")
            last, behind = rows.pop(), False
            for at, row in enumerate(rows):
                words = row.split(" ")
                right = len(words) == 3 and words[0] in ("letter", "thing") and words[1].isalpha() and words[1].islower()
                right = right and words[2].isdigit() and (words[2] == "0" or words[2][0] != "0")
                right = right and len(words[1]) <= (1 if words[0] == "letter" else 8)
                if not right or (behind and words[0] == "letter"):
                    return at + 1
                behind = words[0] == "thing"
            return len(rows) + 1 if last else 0

        for at in range(len(TEXT) + 1):
            for sign in ("", " ", "\n", "a", "Z", "0", "7", ".", "~"):
                for text in (TEXT[:at] + sign + TEXT[at:], TEXT[:at] + sign + TEXT[at + 1:]):
                    bad = rows_right(text)
                    if bad:
                        self.bad_row(text, bad)
                    else:
                        try:
                            self.assertEqual(book_text(*read_book(text)), text)
                        except (BadName, BadPrices, BadWeights):
                            pass


class TestWordText(unittest.TestCase):
    def test_some(self):
        self.assertEqual(word_text(("a", "b"), (0, 1, 1)), "abb")
        self.assertEqual(word_text(("q", "a", "z"), (2, 0, 1)), "zqa")
        self.assertEqual(word_text(("a", "b"), (1,) * 60), "b" * 60)

    def test_the_empty_word_is_a_point(self):
        self.assertEqual(word_text(("a", "b"), ()), ".")
        self.assertEqual(read_word(("a", "b"), "."), ())

    def test_and_back(self):
        signs = ("q", "a", "z")
        for size in range(6):
            for word in itertools.product(range(3), repeat=size):
                self.assertEqual(read_word(signs, word_text(signs, word)), word)
        self.assertIs(read_word(signs, "qaz").__class__, tuple)

    def test_numbers_that_are_no_letters(self):
        for number in (-1, -2, 2, 3, MOST, -MOST):
            for word in ((number,), (0, number), (number, 1), (0,) * 59 + (number,)):
                self.assertRaises(BadWord, word_text, ("a", "b"), word)
        self.assertEqual(word_text(("a", "b", "c"), (2,)), "c")

    def test_texts_that_are_no_word(self):
        for text in ("", "c", "abc", "ca", "..", "a.", ".a", "a b", " ", "a ", " a", "A", "0", "a\n", "\n", "ab~", "a" * 59 + "c"):
            self.assertRaises(BadName, read_word, ("a", "b"), text)
        self.assertEqual(read_word(("a", "b"), "a" * 60), (0,) * 60)


if __name__ == "__main__":
    unittest.main()
