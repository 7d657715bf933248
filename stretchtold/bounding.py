"""Bounds: what all rows that fit a book have in common."""

from stretchtold.books import check_book, check_stretch
from stretchtold.checks import is_integer
from stretchtold.errors import BadNumber, NoRow
from stretchtold.tables import table_bounds, table_least_row, told_table, with_fact


def book_table(book):
    return told_table(book.cells, book.most, book.facts)


def fitting_table(book):
    table = book_table(book)
    if table is None:
        raise NoRow()
    return table


def check_number(number):
    if not is_integer(number):
        raise BadNumber()


def is_possible(book):
    """Whether some row fits."""
    check_book(book)
    return book_table(book) is not None


def least_row(book):
    """The least row that fits."""
    check_book(book)
    return table_least_row(fitting_table(book))


def bounds(book, begin, end):
    """The least and the greatest number of things in a stretch, of all rows that fit."""
    check_book(book)
    check_stretch(book, begin, end)
    return table_bounds(fitting_table(book), begin, end)


def row_with(book, begin, end, number):
    """The least row that fits and has this number in a stretch, None if there is none."""
    check_book(book)
    check_stretch(book, begin, end)
    check_number(number)
    table = with_fact(fitting_table(book), (begin, end, number, number))
    return None if table is None else table_least_row(table)


def sure_cells(book):
    """The ascending list of (cell, number) of all cells with one number in all rows that fit."""
    check_book(book)
    table = fitting_table(book)
    return [(cell, table[cell][cell + 1]) for cell in range(book.cells)
            if table[cell][cell + 1] == -table[cell + 1][cell]]


def needless(book):
    """The ascending list of the indexes of all facts without which, each alone, the same rows fit."""
    check_book(book)
    cells, most, facts = book.cells, book.most, book.facts
    table = book_table(book)
    return [index for index in range(len(facts))
            if told_table(cells, most, facts[:index] + facts[index + 1:]) == table]
