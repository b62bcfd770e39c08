"""What the document promises over the whole program: points [0.1], [0.4] and the roads to one least cost."""

import random
import unittest

from lettertoll.bounded import cheapest_bounded, least_stairs
from lettertoll.boundexam import shows_bounded
from lettertoll.codes import cost, is_lean
from lettertoll.desk import Desk
from lettertoll.free import free_code, free_shown
from lettertoll.frontiers import frontier_floors
from lettertoll.kept import cheapest_kept, least_floors
from lettertoll.keptexam import shows_kept
from lettertoll.numbered import number_of, numbered
from lettertoll.texts import book_text, read_book, read_word
from lettertoll.trees import code_by, code_of, spelling_of, tree_of
from tests.by_trial import MOST, least_cost, some_books

NAMES = ("p", "q", "aa", "ab", "cost", "x", "none", "read", "w", "y", "z", "k")


def text_of(prices, weights):
    return book_text("abcdef"[:len(prices)], prices, NAMES[:len(weights)], weights)


class TestRoads(unittest.TestCase):
    def check_roads(self, desk):
        signs, prices, names, weights = read_book(desk.book())
        least = least_cost(prices, weights)
        top = len(weights) - 1
        self.assertEqual(desk.answer("cost"), str(least))
        self.assertEqual(desk.answer(f"bounded {top}"), str(least))
        self.assertEqual(least_floors(prices, weights)[0][-1], least)
        self.assertEqual(least_stairs(prices, weights, top)[top][0][-1], least)
        told = cheapest_kept(prices, weights)
        self.assertEqual(told[0], least)
        code = tuple(read_word(signs, word) for word in desk.answer("code 0").split(" "))
        self.assertEqual(code, numbered(prices, weights, 0))
        for one in (code, told[1], cheapest_bounded(prices, weights, top)[1]):
            self.assertEqual(cost(prices, weights, one), least)
            self.assertTrue(is_lean(one))
            self.assertTrue(shows_kept(prices, weights, one, told[2]))
            self.assertTrue(shows_bounded(prices, weights, top, one, least_stairs(prices, weights, top)))
            self.assertEqual(code_by(len(prices), len(weights), spelling_of(one)), one)
            self.assertEqual(code_of(tree_of(one, len(prices))), one)
            self.assertEqual(numbered(prices, weights, number_of(prices, weights, one)), one)
        if len(weights) <= 6:
            self.assertLessEqual(int(desk.answer("free")), least)
            shown = free_shown(prices, weights, free_code(prices, weights)[1], frontier_floors(prices, weights))
            self.assertTrue(shown)

    def test_one_least_cost_by_all_roads(self):
        for prices, weights in some_books(171, 10, (2, 6), (1, 12), MOST) + some_books(172, 15, (2, 4), (1, 8), 4):
            self.check_roads(Desk(text_of(prices, weights)))

    def test_behind_deeds_and_their_taking_back(self):
        chance = random.Random(173)
        for prices, weights in some_books(174, 4, (2, 4), (2, 7), 6):
            text = text_of(prices, weights)
            desk = Desk(text)
            books = [text]
            for again in range(8):
                number = chance.choice((1, 2, 3, 50, MOST))
                if chance.random() < 0.5:
                    desk.put_price("abcdef"[chance.randrange(len(prices))], number)
                else:
                    desk.put_weight(NAMES[chance.randrange(len(weights))], number)
                books.append(desk.book())
                self.check_roads(desk)
            while len(books) > 1:
                books.pop()
                desk.back()
                self.assertEqual(desk.book(), books[-1])
                self.check_roads(desk)

    def test_ends_of_stretches_are_where_other_codes_come(self):
        for prices, weights in some_books(175, 6, (2, 3), (2, 6), 9):
            desk = Desk(text_of(prices, weights))
            code = numbered(prices, weights, 0)
            for at, sign in enumerate("abcdef"[:len(prices)]):
                low, high = [int(word) for word in desk.answer("price " + sign).split(" ")]
                for number, inside in ((low - 1, False), (low, True), (prices[at], True), (high, True), (high + 1, False)):
                    if 1 <= number <= MOST:
                        desk.put_price(sign, number)
                        now = read_book(desk.book())[1]
                        self.assertEqual(desk.answer("cost") == str(cost(now, weights, code)), inside)
                        desk.back()
            self.assertEqual(desk.book(), text_of(prices, weights))


class TestRows(unittest.TestCase):
    def test_rows_written_by_a_desk_are_read_back_cut_at_any_place(self):
        chance = random.Random(176)
        for prices, weights in some_books(177, 10, (2, 6), (2, 12), 30):
            desk = Desk(text_of(prices, weights))
            row = [chance.choice(NAMES[:len(weights)]) for at in range(12)]
            letters = desk.answer("write " + " ".join(row))
            self.assertEqual(desk.answer("read " + letters), "".join(name + " " for name in row) + ".")
            for cut in range(1, len(letters)):
                ahead = desk.answer("read " + letters[:cut]).split(" ")
                rest = "" if ahead[-1] == "." else ahead[-1]
                behind = desk.answer("read " + rest + letters[cut:]).split(" ")
                self.assertEqual(ahead[:-1] + behind, row + ["."])


if __name__ == "__main__":
    unittest.main()
