"""Points [10.4], [10.5], [10.6], [0.4] and the interface's section on lettertoll/desk.py."""

import random
import unittest

from lettertoll.bounded import cheapest_bounded
from lettertoll.counted import many_cheapest
from lettertoll.desk import Desk
from lettertoll.errors import BadName, BadPrices, BadRow, BadWeights, NothingLeft, TooMany
from lettertoll.free import free_code
from lettertoll.kept import cheapest_kept
from lettertoll.moved import price_stretch, weight_stretch
from lettertoll.numbered import numbered, sure_words
from lettertoll.reading import written
from lettertoll.texts import book_text, read_book, word_text
from tests.by_trial import MOST, cheapest_codes, read_by_words, some_books

TEXT = "letter a 1\nletter b 3\nthing x 5\nthing y 2\nthing z 2\n"
LIKE = "letter a 1\nletter b 1\nthing x 1\nthing y 1\nthing z 1\n"

# Names that are words of questions, or like a letter's sign.
NAMES = ("cost", "a", "none", "write", "read", "code", "b", "sure", "many", "free", "price", "weight", "bounded", "thing",
         "letter", "refused", "x", "c", "ab", "zzzzzzzz", "d", "e", "f", "g")
SIGNS = ("a", "c", "b", "z", "x", "y")

NO_AMOUNTS = (0, -1, -MOST, MOST + 1, MOST * MOST)


def some_texts(seed, many, letters, things, most):
    for prices, weights in some_books(seed, many, letters, things, most):
        yield book_text(SIGNS[:len(prices)], prices, NAMES[:len(weights)], weights)


class TestBook(unittest.TestCase):
    def test_the_text_comes_back(self):
        for text in [TEXT, LIKE] + list(some_texts(161, 10, (2, 6), (1, 24), MOST)):
            self.assertEqual(Desk(text).book(), text)

    def test_refused_as_read_book_refuses(self):
        for text, refusal in (
            ("", BadPrices), (TEXT[:-1], BadRow), (TEXT + "thing x 2\n", BadName), (TEXT + "thing w 0\n", BadWeights),
            ("letter b 0\n" + TEXT, BadName), ("letter c 0\n" + TEXT, BadPrices), ("letter a 1\nletter b 1\n", BadWeights),
        ):
            self.assertRaises(refusal, Desk, text)
        with self.assertRaises(BadRow) as caught:
            Desk("letter a 1\nletter b 3\nthing x 05\n")
        self.assertEqual(caught.exception.at, 3)


class TestDeeds(unittest.TestCase):
    def test_another_price_and_another_weight(self):
        desk = Desk(TEXT)
        self.assertIsNone(desk.put_price("b", 7))
        self.assertEqual(desk.book(), TEXT.replace("b 3", "b 7"))
        self.assertIsNone(desk.put_weight("y", MOST))
        self.assertEqual(desk.book(), TEXT.replace("b 3", "b 7").replace("y 2", f"y {MOST}"))
        self.assertIsNone(desk.back())
        self.assertEqual(desk.book(), TEXT.replace("b 3", "b 7"))
        self.assertIsNone(desk.back())
        self.assertEqual(desk.book(), TEXT)
        self.assertRaises(NothingLeft, desk.back)

    def test_a_thing_called_like_a_letter(self):
        desk = Desk("letter a 1\nletter b 3\nthing b 5\nthing a 2\n")
        desk.put_price("a", 8)
        desk.put_weight("a", 9)
        self.assertEqual(desk.book(), "letter a 8\nletter b 3\nthing b 5\nthing a 9\n")

    def test_the_number_that_stands_there_already_is_a_deed(self):
        desk = Desk(TEXT)
        desk.put_price("a", 4)
        desk.put_price("a", 4)
        desk.put_weight("x", 5)
        self.assertEqual(desk.book(), TEXT.replace("a 1", "a 4"))
        desk.back()
        self.assertEqual(desk.book(), TEXT.replace("a 1", "a 4"))
        desk.back()
        self.assertEqual(desk.book(), TEXT.replace("a 1", "a 4"))
        desk.back()
        self.assertEqual(desk.book(), TEXT)
        self.assertRaises(NothingLeft, desk.back)

    def test_nothing_left(self):
        desk = Desk(TEXT)
        self.assertRaises(NothingLeft, desk.back)
        desk.put_price("a", 2)
        desk.back()
        self.assertRaises(NothingLeft, desk.back)
        self.assertEqual(desk.book(), TEXT)

    def test_the_least_and_the_greatest_number(self):
        desk = Desk(TEXT)
        for number in (1, MOST):
            desk.put_price("a", number)
            desk.put_weight("z", number)
            self.assertEqual(desk.book(), TEXT.replace("a 1", f"a {number}").replace("z 2", f"z {number}"))

    def test_a_refused_deed_changes_nothing(self):
        desk = Desk(TEXT)
        desk.put_price("b", 7)
        now = desk.book()
        for sign in ("c", "x", "", "ab", "A", "a ", ".", "y"):
            for number in (5, 0, MOST + 1):
                self.assertRaises(BadName, desk.put_price, sign, number)
        for name in ("a", "b", "", "xy", "X", "x ", "."):
            for number in (5, 0, MOST + 1):
                self.assertRaises(BadName, desk.put_weight, name, number)
        for number in NO_AMOUNTS:
            self.assertRaises(BadPrices, desk.put_price, "a", number)
            self.assertRaises(BadWeights, desk.put_weight, "x", number)
        self.assertEqual(desk.book(), now)
        desk.back()
        self.assertEqual(desk.book(), TEXT)
        self.assertRaises(NothingLeft, desk.back)

    def test_deeds_and_back_in_any_order(self):
        chance = random.Random(162)
        for text in some_texts(163, 6, (2, 6), (1, 6), 9):
            signs, prices, names, weights = read_book(text)
            desk, states = Desk(text), [(prices, weights)]
            for again in range(150):
                deed = chance.choice(("price", "weight", "back", "back", "refused"))
                prices, weights = states[-1]
                number = chance.choice((1, 2, 7, MOST))
                if deed == "price":
                    at = chance.randrange(len(signs))
                    desk.put_price(signs[at], number)
                    states.append((prices[:at] + (number,) + prices[at + 1:], weights))
                elif deed == "weight":
                    at = chance.randrange(len(names))
                    desk.put_weight(names[at], number)
                    states.append((prices, weights[:at] + (number,) + weights[at + 1:]))
                elif deed == "refused":
                    self.assertRaises(BadPrices, desk.put_price, signs[0], chance.choice(NO_AMOUNTS))
                    self.assertRaises(BadWeights, desk.put_weight, names[0], chance.choice(NO_AMOUNTS))
                elif len(states) > 1:
                    desk.back()
                    states.pop()
                else:
                    self.assertRaises(NothingLeft, desk.back)
                self.assertEqual(desk.book(), book_text(signs, states[-1][0], names, states[-1][1]))
                self.assertEqual(desk.answer("cost"), str(cheapest_kept(*states[-1])[0]))

    def test_two_desks_side_by_side(self):
        one, other = Desk(TEXT), Desk(TEXT)
        one.put_price("a", 9)
        self.assertEqual(other.book(), TEXT)
        self.assertRaises(NothingLeft, other.back)
        other.put_weight("x", 1)
        one.back()
        self.assertEqual(one.book(), TEXT)
        self.assertEqual(other.book(), TEXT.replace("x 5", "x 1"))
        self.assertRaises(NothingLeft, one.back)
        self.assertEqual((one.answer("cost"), other.answer("cost")), ("24", "16"))
        third = Desk(LIKE)
        self.assertEqual((one.answer("many"), third.answer("many")), ("1", "2"))

    def test_a_question_is_no_deed(self):
        desk = Desk(TEXT)
        for question in ("cost", "many", "code 0", "read aa", "price a", "nonsense", "sure q"):
            desk.answer(question)
        self.assertEqual(desk.book(), TEXT)
        self.assertRaises(NothingLeft, desk.back)


class TestQuestions(unittest.TestCase):
    def test_some(self):
        desk = Desk(TEXT)
        for question, answer in (
            ("cost", "24"), ("many", "1"), ("code 0", "aa ab b"), ("sure x", "aa"), ("sure z", "b"),
            ("bounded 0", "none"), ("bounded 1", "none"), ("bounded 2", "24"), ("bounded 24", "24"),
            ("price a", "1 1"), ("price b", f"3 {MOST}"), ("weight x", "1 6"), ("weight z", f"2 {MOST}"),
            ("free", "24"), ("write x", "aa"), ("write z z x y", "bbaaab"), ("read bbaaab", "z z x y ."),
            ("read bbaaaba", "z z x y a"), ("read a", "a"), ("read b", "z ."),
        ):
            self.assertEqual(desk.answer(question), answer, question)

    def test_like_things(self):
        desk = Desk(LIKE)
        for question, answer in (
            ("many", "2"), ("code 0", "a ba bb"), ("code 1", "aa ab b"), ("code 2", "refused BadNumber"), ("sure x", "none"),
            ("sure z", "none"), ("write y x", "baa"), ("read baa", "y x ."), ("read bab", "y b"),
        ):
            self.assertEqual(desk.answer(question), answer, question)

    def test_one_thing(self):
        desk = Desk("letter a 1\nletter b 3\nthing x 5\n")
        for question, answer in (
            ("cost", "0"), ("many", "1"), ("code 0", "."), ("sure x", "."), ("bounded 0", "0"), ("free", "0"),
            ("price a", f"1 {MOST}"), ("weight x", f"1 {MOST}"), ("write x", "."), ("write x x x", "."),
            ("read a", "refused NoReading"), ("read ab", "refused NoReading"), ("read .", "refused BadName"),
            ("read c", "refused BadName"), ("code 1", "refused BadNumber"),
        ):
            self.assertEqual(desk.answer(question), answer, question)

    def check_desk(self, desk):
        """Each kind of question has the answers of the functions of the earlier points."""
        signs, prices, names, weights = read_book(desk.book())
        many = many_cheapest(prices, weights)
        self.assertEqual(desk.answer("cost"), str(cheapest_kept(prices, weights)[0]))
        self.assertEqual(desk.answer("many"), str(many))
        first = numbered(prices, weights, 0)
        for number in {0, many // 2, many - 1}:
            code = numbered(prices, weights, number)
            self.assertEqual(desk.answer(f"code {number}"), " ".join(word_text(signs, word) for word in code))
        self.assertEqual(desk.answer(f"code {many}"), "refused BadNumber")
        for name, word in zip(names, sure_words(prices, weights)):
            self.assertEqual(desk.answer(f"sure {name}"), "none" if word is None else word_text(signs, word))
        for top in (0, 1, 2, 5):
            least = cheapest_bounded(prices, weights, top)[0]
            self.assertEqual(desk.answer(f"bounded {top}"), "none" if least is None else str(least))
        for at, sign in enumerate(signs[:3]):
            low, high = price_stretch(prices, weights, first, at)
            self.assertEqual(desk.answer(f"price {sign}"), f"{low} {high}")
        for at, name in list(enumerate(names))[::3]:
            low, high = weight_stretch(prices, weights, first, at)
            self.assertEqual(desk.answer(f"weight {name}"), f"{low} {high}")
        try:
            self.assertEqual(desk.answer("free"), str(free_code(prices, weights)[0]))
        except TooMany:
            self.assertEqual(desk.answer("free"), "refused TooMany")
        self.check_rows(desk, signs, names, first)

    def check_rows(self, desk, signs, names, code):
        chance = random.Random(164)
        for size in (1, 2, 9):
            row = [chance.randrange(len(names)) for at in range(size)]
            word = written(code, row)
            told = desk.answer("write " + " ".join(names[thing] for thing in row))
            self.assertEqual(told, word_text(signs, word))
            if code == ((),):
                continue
            for cut in range(1, len(word) + 1):
                things, rest = read_by_words(code, word[:cut])
                asked = "".join(names[thing] + " " for thing in things) + word_text(signs, rest)
                self.assertEqual(desk.answer("read " + told[:cut]), asked)

    def test_the_answers_are_those_of_the_functions(self):
        for text in list(some_texts(165, 12, (2, 3), (1, 6), 4)) + list(some_texts(166, 4, (2, 6), (2, 8), MOST)):
            self.check_desk(Desk(text))

    def test_many_things(self):
        for text in some_texts(167, 1, (6, 6), (24, 24), 5):
            self.check_desk(Desk(text))

    def test_of_the_book_as_it_is_then(self):
        desk = Desk(LIKE)
        self.assertEqual(desk.answer("code 0"), "a ba bb")
        desk.put_weight("x", 5)
        self.assertEqual((desk.answer("many"), desk.answer("sure x")), ("1", "a"))
        desk.put_weight("z", 9)
        self.check_desk(desk)
        self.assertEqual(desk.answer("code 0"), "aa ab b")
        desk.put_price("b", 50)
        self.check_desk(desk)
        desk.back()
        desk.back()
        desk.back()
        self.assertEqual((desk.answer("many"), desk.answer("sure x")), ("2", "none"))
        self.check_desk(desk)

    def test_the_code_with_number_0_is_the_one_asked_of(self):
        for text in some_texts(168, 12, (2, 3), (3, 5), 2):
            desk = Desk(text)
            signs, prices, names, weights = read_book(text)
            first = cheapest_codes(prices, weights)[0]
            self.assertEqual(desk.answer("code 0"), " ".join(word_text(signs, word) for word in first))
            for name, word in zip(names, first):
                self.assertEqual(desk.answer("write " + name), word_text(signs, word))
                self.assertEqual(desk.answer("read " + word_text(signs, word)), name + " .")

    def test_the_same_question_has_the_same_answer(self):
        desk = Desk(LIKE)
        for question in ("cost", "code 1", "sure x", "read bab", "price a"):
            first = desk.answer(question)
            desk.answer("many")
            self.assertEqual(desk.answer(question), first)


class TestRefusedQuestions(unittest.TestCase):
    def test_bad_rows(self):
        desk = Desk(TEXT)
        for question in (
            "", " ", "  ", "cost ", " cost", "cost cost", "cost x", "Cost", "COST", "costs", "cos", "cost\n", "many ", "many x",
            "many 1", "free ", "free x", " free", "code", "code ", "code  0", "code 0 ", " code 0", "code 0 0", "code x",
            "code -1", "code +1", "code 00", "code 01", "code 0x0", "code 1.", "code " + "1" * 41, "code 0" + "1" * 39,
            "code\n0", "code 0\n", "bounded", "bounded ", "bounded x", "bounded -1", "bounded 02", "bounded 2 ",
            "bounded 2 2", "bounded " + "9" * 41, "sure", "sure ", "sure  x", "sure x ", "sure x y", "price", "price ",
            "price a b", "price  a", "price a ", "weight", "weight ", "weight x y", "weight x ", "write", "write ",
            "write  x", "write x ", "write x  y", "write x y ", " write x", "read", "read ", "read a b", "read  a", "read a ",
            "x", "aa", "none", "refused BadRow", "letter a 1", "thing x 5", ".", "codes 0", "0", "code:0",
        ):
            self.assertEqual(desk.answer(question), "refused BadRow", repr(question))

    def test_numbers_of_1_to_40_figures(self):
        desk = Desk(TEXT)
        self.assertEqual(desk.answer("code 0"), "aa ab b")
        for figures in (1, 2, 39, 40):
            self.assertEqual(desk.answer("code " + "9" * figures), "refused BadNumber")
        for number in (25, 26, 99, 10 ** 39):
            self.assertEqual(desk.answer(f"bounded {number}"), "refused BadNumber")
        self.assertEqual(desk.answer("bounded 24"), "24")

    def test_bad_names(self):
        desk = Desk(TEXT)
        for question in (
            "sure a", "sure q", "sure X", "sure xx", "sure .", "sure 0", "sure x\n", "sure ~", "price x", "price c", "price A",
            "price ab", "price .", "price 1", "weight a", "weight q", "weight xy", "weight .", "write a", "write x a",
            "write a x", "write x y q", "write .", "write x,y", "read c", "read ac", "read ca", "read .", "read a.", "read .a",
            "read x", "read A", "read a\n", "read ab~", "read 0",
        ):
            self.assertEqual(desk.answer(question), "refused BadName", repr(question))

    def test_bad_names_ahead_of_what_the_functions_refuse(self):
        # One thing alone: nothing can be read.
        desk = Desk("letter a 1\nletter b 3\nthing x 5\n")
        self.assertEqual(desk.answer("read ac"), "refused BadName")
        self.assertEqual(desk.answer("read aa"), "refused NoReading")
        # Signs that begin no word stand ahead of one that is none.
        desk = Desk("letter a 1\nletter b 1\nletter c 9\nthing x 5\nthing y 5\n")
        self.assertEqual(desk.answer("code 0"), "a b")
        self.assertEqual(desk.answer("read c"), "refused BadLetter")
        self.assertEqual(desk.answer("read cd"), "refused BadName")
        self.assertEqual(desk.answer("read abcab"), "refused BadLetter")
        self.assertEqual(desk.answer("read ab"), "x y .")

    def test_bad_rows_ahead_of_bad_names(self):
        desk = Desk(TEXT)
        for question in ("sure q ", "sure q q", "write q ", "write  q", "read c c", "price q x", "weight  q"):
            self.assertEqual(desk.answer(question), "refused BadRow")

    def test_free_with_too_many_things(self):
        for letters in range(2, 7):
            for things in (6, 7, 8, 24):
                prices, weights = (1,) * letters, tuple(range(1, things + 1))
                desk = Desk(book_text(SIGNS[:letters], prices, NAMES[:things], weights))
                if things == 6 or (things == 7 and letters == 2):
                    self.assertEqual(desk.answer("free"), str(free_code(prices, weights)[0]))
                else:
                    self.assertEqual(desk.answer("free"), "refused TooMany")

    def test_names_that_are_words_of_questions(self):
        prices, weights = (1, 2), tuple(range(1, 25))
        desk = Desk(book_text(SIGNS[:2], prices, NAMES, weights))
        words = sure_words(prices, weights)
        code = numbered(prices, weights, 0)
        for name, sure, word in zip(NAMES, words, code):
            self.assertEqual(desk.answer("sure " + name), "none" if sure is None else word_text(SIGNS, sure))
            self.assertEqual(desk.answer("write " + name), word_text(SIGNS, word))
            self.assertNotIn("refused", desk.answer("weight " + name))
        self.assertEqual(desk.answer("write write read"), word_text(SIGNS, written(code, [3, 4])))
        self.assertEqual(desk.answer("price cost"), "refused BadName")
        self.assertEqual(desk.answer("cost cost"), "refused BadRow")

    def test_questions_of_four_hundred_signs(self):
        desk = Desk(LIKE)
        self.assertEqual(desk.answer("write" + " x" * 197), "a" * 197)
        self.assertEqual(desk.answer("read " + "a" * 395), "x " * 395 + ".")
        self.assertEqual(desk.answer("read " + "b" * 395), "z " * 197 + "b")
        self.assertEqual(desk.answer("x" * 400), "refused BadRow")
        self.assertEqual(desk.answer("sure " + "x" * 395), "refused BadName")


if __name__ == "__main__":
    unittest.main()
