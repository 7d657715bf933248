"""[3] and [4]: what all rows that fit have in common."""

import unittest

from stretchtold.books import Book, broken
from stretchtold.bounding import bounds, is_possible, least_row, needless, row_with, sure_cells
from stretchtold.errors import BadBook, BadNumber, BadStretch, NoRow
from tests.looking import (GREAT, NO_BOOKS, NO_INTEGERS, NO_STRETCHES, fitting, great_books, numbers_in, small_books,
                           stretches, tiny_books)

TOLD = Book(4, 3, ((0, 2, 4, 4), (1, 3, 0, 2)))
OFF = Book(2, 3, ((0, 2, 7, 9),))


def least_bounds(rows, begin, end):
    numbers = numbers_in(rows, begin, end)
    return min(numbers), max(numbers)


class ExampleTest(unittest.TestCase):
    def test_bounds_and_rows(self):
        self.assertEqual([bounds(TOLD, 0, 1), bounds(TOLD, 1, 2), bounds(TOLD, 2, 3), bounds(TOLD, 0, 4)],
                         [(2, 3), (1, 2), (0, 1), (4, 8)])
        self.assertEqual([least_row(TOLD), row_with(TOLD, 2, 3, 1)], [(2, 2, 0, 0), (3, 1, 1, 0)])

    def test_sure_possible_needless(self):
        self.assertEqual(sure_cells(Book(2, 3, ((0, 2, 6, 9),))), [(0, 3), (1, 3)])
        self.assertIs(is_possible(OFF), False)
        self.assertEqual(needless(Book(3, 1, ((0, 3, 3, 3), (0, 1, 0, 1)))), [1])


class AllRowsTest(unittest.TestCase):
    def books(self):
        return small_books(2, 250) + tiny_books()

    def test_is_possible(self):
        found = [is_possible(book) for book in self.books()]
        self.assertEqual(found, [bool(fitting(book)) for book in self.books()])
        self.assertEqual([True in found, False in found], [True, True])

    def test_least_row(self):
        for book in self.books():
            rows = fitting(book)
            if rows:
                self.assertEqual(least_row(book), min(rows))

    def test_bounds(self):
        for book in self.books():
            rows = fitting(book)
            for begin, end in stretches(book) if rows else []:
                self.assertEqual(bounds(book, begin, end), least_bounds(rows, begin, end))

    def test_row_with(self):
        for book in self.books():
            rows = fitting(book)
            for begin, end in stretches(book) if rows else []:
                for number in range(-1, book.most * book.cells + 2):
                    there = [row for row in rows if sum(row[begin:end]) == number]
                    self.assertEqual(row_with(book, begin, end, number), min(there, default=None))

    def test_sure_cells(self):
        for book in self.books():
            rows = fitting(book)
            if rows:
                sure = [(cell, rows[0][cell]) for cell in range(book.cells) if len({row[cell] for row in rows}) == 1]
                self.assertEqual(sure_cells(book), sure)

    def test_needless(self):
        for book in self.books():
            facts = book.facts
            rest = [facts[:index] + facts[index + 1:] for index in range(len(facts))]
            expected = [index for index, lot in enumerate(rest) if fitting(book, lot) == fitting(book)]
            self.assertEqual(needless(book), expected)

    def test_no_row(self):
        for book in self.books():
            if fitting(book):
                continue
            for ask in (least_row, sure_cells):
                self.assertRaises(NoRow, ask, book)
            for begin, end in stretches(book):
                self.assertRaises(NoRow, bounds, book, begin, end)
                self.assertRaises(NoRow, row_with, book, begin, end, 0)


class EdgeTest(unittest.TestCase):
    def test_one_cell(self):
        book = Book(1, 5, ((0, 1, 2, 9),))
        self.assertEqual([least_row(book), bounds(book, 0, 1), row_with(book, 0, 1, 4), row_with(book, 0, 1, 6)],
                         [(2,), (2, 5), (4,), None])
        self.assertEqual([sure_cells(book), needless(book)], [[], []])

    def test_nothing_may_lie_in_a_cell(self):
        book = Book(3, 0, ((0, 3, 0, 4),))
        self.assertEqual([least_row(book), bounds(book, 0, 3), row_with(book, 0, 2, 0), row_with(book, 0, 2, 1)],
                         [(0, 0, 0), (0, 0), (0, 0, 0), None])
        self.assertEqual([sure_cells(book), needless(book)], [[(0, 0), (1, 0), (2, 0)], [0]])
        self.assertIs(is_possible(Book(3, 0, ((1, 2, 1, 1),))), False)

    def test_no_fact(self):
        book = Book(20, GREAT, ())
        self.assertEqual([is_possible(book), least_row(book), bounds(book, 0, 20), bounds(book, 3, 4)],
                         [True, (0,) * 20, (0, 20 * GREAT), (0, GREAT)])
        self.assertEqual(row_with(book, 0, 20, 3 * GREAT + 5), (0,) * 16 + (5, GREAT, GREAT, GREAT))
        self.assertEqual([sure_cells(book), needless(book)], [[], []])

    def test_the_same_fact_twice(self):
        self.assertEqual(needless(Book(3, 4, ((0, 2, 3, 3), (0, 2, 3, 3)))), [0, 1])
        self.assertEqual(needless(Book(2, 3, ((0, 2, 7, 9), (0, 2, 7, 9), (0, 1, 1, 2)))), [0, 1, 2])

    def test_needless_where_no_row_fits(self):
        self.assertEqual(needless(Book(2, 3, ((0, 2, 7, 9), (0, 1, 1, 2)))), [1])
        self.assertEqual(needless(Book(2, 3, ((0, 1, 1, 1), (0, 1, 2, 2)))), [])

    def test_number_may_be_any_integer(self):
        for number in (-1, -10 ** 40, 10 ** 40, 4):
            self.assertIsNone(row_with(TOLD, 0, 1, number))

    def test_exact_facts_of_thirty_figures(self):
        part, whole = 123456789012345678901234567890, 987654321098765432109876543210
        book = Book(2, GREAT, ((0, 2, whole, whole), (0, 1, part, part)))
        self.assertEqual(sure_cells(book), [(0, part), (1, whole - part)])
        self.assertEqual(bounds(book, 1, 2), (whole - part, whole - part))
        self.assertEqual(bounds(Book(2, GREAT, ((0, 2, whole, whole),)), 0, 1), (0, whole))
        self.assertEqual(bounds(Book(2, whole - 1, ((0, 2, whole, whole),)), 1, 2), (1, whole - 1))

    def test_off_by_one_thing_at_the_limits(self):
        self.assertTrue(is_possible(Book(20, GREAT, ((0, 20, 20 * GREAT, 10 ** 32),))))
        self.assertFalse(is_possible(Book(20, GREAT, ((0, 20, 20 * GREAT + 1, 10 ** 32),))))


class GreatTest(unittest.TestCase):
    """Rows that reach a bound are seen here; test_chains shows that nothing lies beyond."""

    def test_bounds_are_reached(self):
        for book, row in great_books(3, 4):
            self.assertTrue(is_possible(book))
            self.assertEqual(broken(book, least_row(book)), [])
            self.assertLessEqual(least_row(book), row)
            for begin, end in stretches(book):
                least, greatest = bounds(book, begin, end)
                self.assertTrue(least <= sum(row[begin:end]) <= greatest)
                for number in {least, greatest, (least + greatest) // 2}:
                    reached = row_with(book, begin, end, number)
                    self.assertEqual([broken(book, reached), sum(reached[begin:end])], [[], number])
                self.assertIsNone(row_with(book, begin, end, least - 1))
                self.assertIsNone(row_with(book, begin, end, greatest + 1))

    def test_sure_cells_and_needless(self):
        for book, _ in great_books(4, 4):
            ends = [bounds(book, cell, cell + 1) for cell in range(20)]
            self.assertEqual(sure_cells(book), [(cell, low) for cell, (low, high) in enumerate(ends) if low == high])
            expected = []
            for index, (begin, end, low, high) in enumerate(book.facts):
                least, greatest = bounds(Book(20, GREAT, book.facts[:index] + book.facts[index + 1:]), begin, end)
                expected += [index] if low <= least and greatest <= high else []
            self.assertEqual(needless(book), expected)


class WrongTest(unittest.TestCase):
    def test_no_book(self):
        for book in NO_BOOKS:
            for ask in (is_possible, least_row, sure_cells, needless):
                self.assertRaises(BadBook, ask, book)
            self.assertRaises(BadBook, bounds, book, None, None)
            self.assertRaises(BadBook, row_with, book, None, None, None)

    def test_no_stretch(self):
        for begin, end in NO_STRETCHES:
            with self.subTest(begin=begin, end=end):
                self.assertRaises(BadStretch, bounds, TOLD, begin, end)
                self.assertRaises(BadStretch, row_with, TOLD, begin, end, None)

    def test_no_number(self):
        for number in NO_INTEGERS:
            with self.subTest(number=number):
                self.assertRaises(BadNumber, row_with, TOLD, 0, 4, number)

    def test_no_row_comes_last(self):
        self.assertRaises(BadStretch, bounds, OFF, 2, 2)
        self.assertRaises(BadStretch, row_with, OFF, 2, 2, 0)
        self.assertRaises(BadNumber, row_with, OFF, 0, 2, True)
        self.assertRaises(NoRow, row_with, OFF, 0, 2, 7)


if __name__ == "__main__":
    unittest.main()
