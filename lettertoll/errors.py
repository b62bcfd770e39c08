"""The refusals: each one a class of its own straight under TollError."""


class TollError(ValueError):
    pass


class BadPrices(TollError):
    pass


class BadWeights(TollError):
    pass


class BadWord(TollError):
    pass


class Unlike(TollError):
    pass


class NoThing(TollError):
    pass


class NoReading(TollError):
    pass


class NotCheapest(TollError):
    pass


class BadSpelling(TollError):
    pass


class BadNumber(TollError):
    pass


class TooMany(TollError):
    pass


class BadName(TollError):
    pass


class NothingLeft(TollError):
    pass


# The three below are made of numbers. The base's __init__ is not called: the
# numbers are kept by every error anyway, so a copy of one can be made of them.


class Clash(TollError):
    def __init__(self, one, other):
        self.one = one
        self.other = other


class BadLetter(TollError):
    def __init__(self, at):
        self.at = at


class BadRow(TollError):
    def __init__(self, at):
        self.at = at
