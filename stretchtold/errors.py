"""The errors of the package: one class for each kind of failure."""


class CountError(ValueError):
    """The base class of all errors here."""


class BadCells(CountError):
    """The number of cells is no integer within its limits."""


class BadMost(CountError):
    """The greatest number in a cell is no integer within its limits."""


class BadFacts(CountError):
    """The facts are none: index tells the first wrong one, None means all of them."""

    def __init__(self, index):
        self.index = index


class BadBook(CountError):
    """The value is no Book."""


class BadRow(CountError):
    """The value is no row."""


class NoRow(CountError):
    """No row fits."""


class BadNumber(CountError):
    """The value is no integer of those that may stand here."""


class BadStretch(CountError):
    """The two places are no stretch."""


class BadWord(CountError):
    """The value is none of the words that may stand here."""


class BadRing(CountError):
    """The value is no Ring."""


class TooMany(CountError):
    """There is too much to go through it all."""


class BadRests(CountError):
    """The rests are none: index tells the first wrong one, None means all of them."""

    def __init__(self, index):
        self.index = index


class Full(CountError):
    """There is no room for one more fact."""


class BadIndex(CountError):
    """The value is no index of a fact."""


class NotAlike(CountError):
    """The two books have not equally many cells."""


class BadRound(CountError):
    """The value is no Round."""


class InvalidText(CountError):
    """The text cannot be read on from this word of this line, both counted from 1."""

    def __init__(self, line, word):
        self.line = line
        self.word = word
