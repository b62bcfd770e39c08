"""Rows of things written in a code, and read back letter by letter."""

from lettertoll.codes import knots_of, refuse_clash
from lettertoll.errors import BadLetter, NoReading, NothingLeft, NoThing


def written(code, things):
    refuse_clash(code)
    if not all([0 <= thing < len(code) for thing in things]):
        raise NoThing("the row has a number that is no thing of the code")
    letters = []
    for thing in things:
        letters.extend(code[thing])
    return tuple(letters)


def read(code, letters):
    reader = Reader(code)
    for letter in letters:
        reader.take(letter)
    return (reader.told(), reader.rest())


class Reader:
    def __init__(self, code):
        # Refuses a clash, too.
        knots = knots_of(code)
        if () in code:
            raise NoReading("the code has the empty word")
        # For each word its thing, for each knot None.
        self.found = {}
        for knot in knots:
            self.found[knot] = None
        for thing, word in enumerate(code):
            self.found[word] = thing
        self.things = []
        self.left = ()
        # For each letter taken, what was left ahead of it.
        self.past = []

    def take(self, letter):
        longer = self.left + (letter,)
        if longer not in self.found:
            raise BadLetter(len(self.past))
        self.past.append(self.left)
        thing = self.found[longer]
        if thing is None:
            self.left = longer
        else:
            self.left = ()
            self.things.append(thing)
        return thing

    def told(self):
        return list(self.things)

    def rest(self):
        return self.left

    def back(self):
        if len(self.past) == 0:
            raise NothingLeft("there is no letter to take back")
        # Behind a whole word nothing is left, and behind any other letter something is.
        if len(self.left) == 0:
            self.things.pop()
        self.left = self.past.pop()
