"""Books: what is told of a row of cells, and which of it a row does not keep to."""

from stretchtold.checks import is_between
from stretchtold.errors import BadBook, BadCells, BadFacts, BadMost, BadRow, BadStretch

MOST_CELLS = 20
GREATEST_MOST = 10 ** 30
MOST_FACTS = 12
GREATEST_TOLD = 10 ** 32


class Book:
    """A row of cells, the greatest number in a cell, and the facts told of its stretches."""

    def __init__(self, cells, most, facts):
        if not is_between(cells, 1, MOST_CELLS):
            raise BadCells()
        if not is_between(most, 0, GREATEST_MOST):
            raise BadMost()
        check_facts(facts, MOST_FACTS, cells, is_stretch)
        self._cells = cells
        self._most = most
        self._facts = facts

    @property
    def cells(self):
        return self._cells

    @property
    def most(self):
        return self._most

    @property
    def facts(self):
        return self._facts

    def __len__(self):
        return len(self._facts)

    def __eq__(self, other):
        return (isinstance(other, Book) and self._cells == other._cells
                and self._most == other._most and self._facts == other._facts)


def is_stretch(begin, end, cells):
    return is_between(begin, 0, cells) and is_between(end, begin + 1, cells)


def all_stretches(cells):
    return [(begin, end) for begin in range(cells) for end in range(begin + 1, cells + 1)]


def is_fact(value, cells, is_its_stretch):
    if not isinstance(value, tuple) or len(value) != 4:
        return False
    begin, end, low, high = value
    return (is_its_stretch(begin, end, cells) and is_between(low, 0, GREATEST_TOLD)
            and is_between(high, low, GREATEST_TOLD))


def is_row(value, book):
    if not isinstance(value, tuple) or len(value) != book.cells:
        return False
    return all([is_between(number, 0, book.most) for number in value])


def check_facts(facts, most_facts, cells, is_its_stretch):
    """Raise BadFacts unless all is right; which places are a stretch, a function of them and cells tells."""
    if not isinstance(facts, tuple) or len(facts) > most_facts:
        raise BadFacts(None)
    for index, value in enumerate(facts):
        if not is_fact(value, cells, is_its_stretch):
            raise BadFacts(index)


def check_book(book):
    if not isinstance(book, Book):
        raise BadBook()


def check_row(book, row):
    if not is_row(row, book):
        raise BadRow()


def check_stretch(book, begin, end):
    if not is_stretch(begin, end, book.cells):
        raise BadStretch()


def holds(fact, row):
    """Whether in the stretch of a fact lie as many things of a row as it tells."""
    begin, end, low, high = fact
    return low <= sum(row[begin:end]) <= high


def fits(book, row):
    return all([holds(fact, row) for fact in book.facts])


def broken(book, row):
    """The ascending list of the indexes of the facts that do not hold for a row."""
    check_book(book)
    check_row(book, row)
    return [index for index, fact in enumerate(book.facts) if not holds(fact, row)]
