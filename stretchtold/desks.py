"""Desks: facts that are told and taken out one by one, and steps that are taken back."""

from stretchtold.bounding import bounds
from stretchtold.books import MOST_FACTS, Book, is_fact, is_stretch
from stretchtold.checks import is_between
from stretchtold.errors import BadFacts, BadIndex, Full


class Desk:
    """A book that grows and shrinks by single facts, and the books that stood here before."""

    def __init__(self, cells, most):
        self._book = Book(cells, most, ())
        self._earlier = []

    @property
    def book(self):
        return self._book

    def __len__(self):
        return len(self._book)

    def tell(self, begin, end, low, high):
        """Put a fact behind the others; the bounds of its stretch then."""
        book = self._book
        fact = (begin, end, low, high)
        if not is_fact(fact, book.cells, is_stretch):
            raise BadFacts(None)
        if len(book) == MOST_FACTS:
            raise Full()
        longer = Book(book.cells, book.most, book.facts + (fact,))
        # Ahead of the step: if no row fits, the NoRow of bounds is to leave all as it is.
        found = bounds(longer, begin, end)
        self._step_to(longer)
        return found

    def take(self, index):
        """Take a fact out and return it."""
        book = self._book
        if not is_between(index, 0, len(book) - 1):
            raise BadIndex()
        self._step_to(Book(book.cells, book.most, book.facts[:index] + book.facts[index + 1:]))
        return book.facts[index]

    def undo(self):
        """Take the last step back; whether there was one."""
        if not self._earlier:
            return False
        self._book = self._earlier.pop()
        return True

    def copy(self):
        """An independent desk that stands as this one, and can take back the same steps."""
        other = Desk(self._book.cells, self._book.most)
        other._book = self._book
        other._earlier = list(self._earlier)
        return other

    def _step_to(self, book):
        self._earlier.append(self._book)
        self._book = book
