"""Books and words as texts."""

from lettertoll.errors import BadName, BadRow, BadWord
from lettertoll.words import has_letters_alone, made_prices, made_weights

SIGNS = "abcdefghijklmnopqrstuvwxyz"
FIGURES = "0123456789"
EMPTY_WORD = "."


def book_text(signs, prices, names, weights):
    rows = [f"letter {sign} {price}\n" for sign, price in zip(signs, prices)]
    rows.extend([f"thing {name} {weight}\n" for name, weight in zip(names, weights)])
    return "".join(rows)


def read_book(text):
    rows = rows_of(text)
    letters = [row for row in rows if row[0] == "letter"]
    things = [row for row in rows if row[0] == "thing"]
    signs = tuple([row[1] for row in letters])
    names = tuple([row[1] for row in things])
    if len(set(signs)) < len(signs) or len(set(names)) < len(names):
        raise BadName("a sign or a name is told twice")
    prices = made_prices([int(row[2]) for row in letters])
    weights = made_weights([int(row[2]) for row in things])
    return (signs, prices, names, weights)


# The rows of a book, each as its three words.
def rows_of(text):
    pieces = text.split("\n")
    last = pieces.pop()
    rows = [piece.split(" ") for piece in pieces]
    for at, row in enumerate(rows):
        behind_a_thing = at > 0 and rows[at - 1][0] == "thing"
        if not is_thing_row(row) and (behind_a_thing or not is_letter_row(row)):
            raise BadRow(at + 1)
    # Behind the last line feed there is nothing left.
    if len(last) > 0:
        raise BadRow(len(rows) + 1)
    return rows


def is_letter_row(row):
    return len(row) == 3 and row[0] == "letter" and is_name(row[1], 1) and is_number(row[2])


def is_thing_row(row):
    return len(row) == 3 and row[0] == "thing" and is_name(row[1], 8) and is_number(row[2])


def is_name(text, most):
    return 1 <= len(text) <= most and all([sign in SIGNS for sign in text])


def is_number(text):
    if not 1 <= len(text) <= 40 or not all([figure in FIGURES for figure in text]):
        return False
    return text == "0" or text[0] != "0"


def word_text(signs, word):
    if not has_letters_alone(word, len(signs)):
        raise BadWord("the word has a number that is no letter's")
    if len(word) == 0:
        return EMPTY_WORD
    return "".join([signs[letter] for letter in word])


def read_word(signs, text):
    if text == EMPTY_WORD:
        return ()
    if len(text) == 0 or not all([sign in signs for sign in text]):
        raise BadName("the text is no word of these signs")
    return tuple([signs.index(sign) for sign in text])
