"""A desk: a book that deeds change, and questions that are answered of it."""

from lettertoll.bounded import cheapest_bounded
from lettertoll.counted import many_cheapest
from lettertoll.errors import BadLetter, BadName, BadNumber, BadPrices, BadWeights, NoReading, NothingLeft, TooMany
from lettertoll.free import free_code
from lettertoll.kept import cheapest_kept
from lettertoll.moved import price_moved, price_stretch, weight_moved, weight_stretch
from lettertoll.numbered import numbered, sure_words
from lettertoll.reading import read, written
from lettertoll.texts import book_text, is_number, read_book, read_word, word_text
from lettertoll.words import is_amount

# The first words of questions, by what stands behind them.
ALONE = ("cost", "many", "free")
WITH_NUMBER = ("code", "bounded")
WITH_WORD = ("sure", "price", "weight", "read")


def is_question(words):
    if not all([len(word) > 0 for word in words]):
        return False
    if len(words) == 1:
        return words[0] in ALONE
    if words[0] == "write":
        return True
    if len(words) > 2:
        return False
    return words[0] in WITH_WORD or (words[0] in WITH_NUMBER and is_number(words[1]))


def text_or_none(number):
    return "none" if number is None else str(number)


def pair_text(pair):
    low = pair[0]
    high = pair[1]
    return f"{low} {high}"


class Desk:
    def __init__(self, text):
        told = read_book(text)
        self.signs = told[0]
        self.prices = told[1]
        self.names = told[2]
        self.weights = told[3]
        # For each deed, the prices and the weights ahead of it.
        self.past = []

    def book(self):
        return book_text(self.signs, self.prices, self.names, self.weights)

    def put_price(self, sign, price):
        if sign not in self.signs:
            raise BadName("no letter has this sign")
        if not is_amount(price):
            raise BadPrices("a price is a number from 1 to 10**30")
        self.past.append((self.prices, self.weights))
        self.prices = price_moved(self.prices, self.signs.index(sign), price)

    def put_weight(self, name, weight):
        if name not in self.names:
            raise BadName("no thing has this name")
        if not is_amount(weight):
            raise BadWeights("a weight is a number from 1 to 10**30")
        self.past.append((self.prices, self.weights))
        self.weights = weight_moved(self.weights, self.names.index(name), weight)

    def back(self):
        if len(self.past) == 0:
            raise NothingLeft("there is no deed to take back")
        ahead = self.past.pop()
        self.prices = ahead[0]
        self.weights = ahead[1]

    def answer(self, question):
        words = question.split(" ")
        if not is_question(words):
            return "refused BadRow"
        if not self.knows(words):
            return "refused BadName"
        try:
            return self.answer_known(words)
        except BadNumber:
            return "refused BadNumber"
        except TooMany:
            return "refused TooMany"
        except NoReading:
            return "refused NoReading"
        except BadLetter:
            return "refused BadLetter"

    def knows(self, words):
        if words[0] == "price":
            return words[1] in self.signs
        if words[0] == "read":
            return all([sign in self.signs for sign in words[1]])
        if words[0] in WITH_NUMBER:
            return True
        return all([name in self.names for name in words[1:]])

    def answer_known(self, words):
        kind = words[0]
        if kind == "cost":
            return str(cheapest_kept(self.prices, self.weights)[0])
        if kind == "many":
            return str(many_cheapest(self.prices, self.weights))
        if kind == "free":
            return str(free_code(self.prices, self.weights)[0])
        if kind == "code":
            return self.code_text(numbered(self.prices, self.weights, int(words[1])))
        if kind == "bounded":
            return text_or_none(cheapest_bounded(self.prices, self.weights, int(words[1]))[0])
        if kind == "sure":
            return self.sure_text(self.names.index(words[1]))
        return self.answer_of_first(words)

    # What is asked of the cheapest kept code with the number 0.
    def answer_of_first(self, words):
        kind = words[0]
        code = numbered(self.prices, self.weights, 0)
        if kind == "price":
            return pair_text(price_stretch(self.prices, self.weights, code, self.signs.index(words[1])))
        if kind == "weight":
            return pair_text(weight_stretch(self.prices, self.weights, code, self.names.index(words[1])))
        if kind == "write":
            return word_text(self.signs, written(code, [self.names.index(name) for name in words[1:]]))
        return self.read_text(read(code, read_word(self.signs, words[1])))

    def code_text(self, code):
        return " ".join([word_text(self.signs, word) for word in code])

    def sure_text(self, thing):
        word = sure_words(self.prices, self.weights)[thing]
        return "none" if word is None else word_text(self.signs, word)

    def read_text(self, things_and_rest):
        names = [self.names[thing] for thing in things_and_rest[0]]
        names.append(word_text(self.signs, things_and_rest[1]))
        return " ".join(names)
