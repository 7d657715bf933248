"""Rows by what lies ahead of their places: those with the fewest and the most things there."""

from stretchtold.bounding import fitting_table
from stretchtold.books import check_book, fits, is_row
from stretchtold.errors import BadRow
from stretchtold.tables import row_of, table_least_row, table_most_row


def check_fitting_row(book, row):
    if not is_row(row, book) or not fits(book, row):
        raise BadRow()


def numbers_ahead(row):
    """How many things lie ahead of each place."""
    return [sum(row[:place]) for place in range(len(row) + 1)]


def fewest_ahead(book):
    """The row that fits with the fewest things ahead of all places at once."""
    check_book(book)
    # Of all rows that fit it is also the least one.
    return table_least_row(fitting_table(book))


def most_ahead(book):
    """The row that fits with the most things ahead of all places at once."""
    check_book(book)
    return table_most_row(fitting_table(book))


def mixed(book, one, other):
    """The rows with as few, and with as many, things ahead of each place as that of two rows that has so."""
    check_book(book)
    check_fitting_row(book, one)
    check_fitting_row(book, other)
    pairs = list(zip(numbers_ahead(one), numbers_ahead(other)))
    return row_of([min(pair) for pair in pairs]), row_of([max(pair) for pair in pairs])
