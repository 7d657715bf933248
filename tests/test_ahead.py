"""[15]: rows by what lies ahead of their places."""

import unittest

from stretchtold.ahead import fewest_ahead, mixed, most_ahead
from stretchtold.books import Book, broken
from stretchtold.bounding import bounds, row_with
from stretchtold.errors import BadBook, BadRow, NoRow
from tests.looking import (GREAT, NO_BOOKS, NO_ROWS, all_rows, fitting, great_books, lift, lifted, possible_books,
                           small_books, tiny_books)

TOLD = Book(3, 2, ((0, 2, 1, 3), (1, 3, 2, 3)))
FOUR = Book(4, 3, ((0, 2, 4, 4), (1, 3, 0, 2)))
OFF = Book(4, 3, ((0, 2, 7, 9),))


def ahead(row):
    return [sum(row[:place]) for place in range(len(row) + 1)]


def row_with_ahead(rows, pick):
    """The row that has the least, or the greatest, number of things of all rows ahead of each place."""
    wanted = [pick(numbers) for numbers in zip(*[ahead(row) for row in rows])]
    found = [row for row in rows if ahead(row) == wanted]
    return found[0] if len(found) == 1 else None


class ExampleTest(unittest.TestCase):
    def test_example(self):
        self.assertEqual([fewest_ahead(TOLD), most_ahead(TOLD), mixed(TOLD, (0, 2, 0), (2, 0, 2))],
                         [(0, 1, 1), (2, 1, 2), ((0, 2, 0), (2, 0, 2))])


class AllRowsTest(unittest.TestCase):
    def books(self):
        return small_books(61, 250) + possible_books(61, 150) + tiny_books()

    def test_fewest_and_most(self):
        for book in self.books():
            rows = fitting(book)
            if rows:
                self.assertEqual(fewest_ahead(book), row_with_ahead(rows, min))
                self.assertEqual(most_ahead(book), row_with_ahead(rows, max))
            else:
                self.assertRaises(NoRow, fewest_ahead, book)
                self.assertRaises(NoRow, most_ahead, book)

    def check_mixed(self, book, one, other):
        fewer, more = mixed(book, one, other)
        self.assertEqual(ahead(fewer), [min(pair) for pair in zip(ahead(one), ahead(other))])
        self.assertEqual(ahead(more), [max(pair) for pair in zip(ahead(one), ahead(other))])
        self.assertEqual([type(fewer), type(more), broken(book, fewer), broken(book, more)], [tuple, tuple, [], []])
        return fewer, more

    def test_mixed(self):
        crossed = 0
        for book in possible_books(62, 60) + [TOLD, FOUR]:
            rows = fitting(book)
            for one in rows[:25]:
                for other in rows[-25:]:
                    found = self.check_mixed(book, one, other)
                    crossed += one not in found
        self.assertGreater(crossed, 100)

    def test_rows_that_cross(self):
        book = Book(4, 3, ())
        self.assertEqual(mixed(book, (0, 3, 0, 3), (1, 0, 3, 0)), ((0, 1, 2, 1), (1, 2, 1, 2)))
        self.assertEqual(mixed(book, (1, 0, 3, 0), (0, 3, 0, 3)), ((0, 1, 2, 1), (1, 2, 1, 2)))
        self.assertEqual(mixed(book, (1, 2, 3, 0), (1, 2, 3, 0)), ((1, 2, 3, 0), (1, 2, 3, 0)))

    def test_rows_that_do_not_fit(self):
        seen = 0
        for book in small_books(63, 60) + possible_books(63, 60):
            rows = fitting(book)
            for row in [row for row in all_rows(book) if row not in rows][:20]:
                seen += bool(rows)
                for fits in rows[:3] + [row]:
                    self.assertRaises(BadRow, mixed, book, row, fits)
                    self.assertRaises(BadRow, mixed, book, fits, row)
        self.assertGreater(seen, 100)


class EdgeTest(unittest.TestCase):
    def test_one_cell(self):
        book = Book(1, 5, ((0, 1, 2, 4),))
        self.assertEqual([fewest_ahead(book), most_ahead(book), mixed(book, (4,), (3,))], [(2,), (4,), ((3,), (4,))])

    def test_nothing_may_lie_in_a_cell(self):
        book = Book(3, 0, ((0, 3, 0, 4),))
        self.assertEqual([fewest_ahead(book), most_ahead(book), mixed(book, (0, 0, 0), (0, 0, 0))],
                         [(0, 0, 0), (0, 0, 0), ((0, 0, 0), (0, 0, 0))])

    def test_no_fact(self):
        book = Book(20, GREAT, ())
        self.assertEqual([fewest_ahead(book), most_ahead(book)], [(0,) * 20, (GREAT,) * 20])
        self.assertEqual(mixed(book, (0, GREAT) * 10, (GREAT, 0) * 10), ((0, GREAT) * 10, (GREAT, 0) * 10))

    def test_the_same_fact_twice(self):
        book = Book(3, 3, ((0, 3, 4, 5), (0, 3, 4, 5)))
        self.assertEqual([fewest_ahead(book), most_ahead(book)], [(0, 1, 3), (3, 2, 0)])

    def test_most_ahead_is_not_the_greatest_in_each_cell(self):
        book = Book(3, 9, ((0, 3, 10, 10), (0, 2, 4, 6)))
        self.assertEqual([fewest_ahead(book), most_ahead(book)], [(0, 4, 6), (6, 0, 4)])


class GreatTest(unittest.TestCase):
    def test_great_books(self):
        for book, row in great_books(64, 5):
            ends = [bounds(book, 0, place) for place in range(1, 21)]
            self.assertEqual(ahead(fewest_ahead(book))[1:], [least for least, _ in ends])
            self.assertEqual(ahead(most_ahead(book))[1:], [greatest for _, greatest in ends])
            self.assertEqual([broken(book, fewest_ahead(book)), broken(book, most_ahead(book))], [[], []])
            self.assertEqual(mixed(book, row, most_ahead(book)), (row, most_ahead(book)))
            self.assertEqual(mixed(book, fewest_ahead(book), row), (fewest_ahead(book), row))

    def test_mixed_great_rows(self):
        crossed = 0
        for book, row in great_books(65, 5):
            for cell in range(20):
                least, greatest = bounds(book, cell, cell + 1)
                other = row_with(book, cell, cell + 1, (least + greatest) // 2)
                fewer, more = mixed(book, row, other)
                self.assertEqual([broken(book, fewer), broken(book, more)], [[], []])
                self.assertEqual(ahead(fewer), [min(pair) for pair in zip(ahead(row), ahead(other))])
                self.assertEqual(ahead(more), [max(pair) for pair in zip(ahead(row), ahead(other))])
                crossed += row not in (fewer, more)
        self.assertGreater(crossed, 5)

    def test_lifted_books(self):
        for book in possible_books(66, 60):
            rows, great = fitting(book), lifted(book)
            self.assertEqual(fewest_ahead(great), lift(book, row_with_ahead(rows, min)))
            self.assertEqual(most_ahead(great), lift(book, row_with_ahead(rows, max)))
            expected = tuple([lift(book, row) for row in mixed(book, rows[0], rows[-1])])
            self.assertEqual(mixed(great, lift(book, rows[0]), lift(book, rows[-1])), expected)


class WrongTest(unittest.TestCase):
    def test_no_book(self):
        for book in NO_BOOKS:
            self.assertRaises(BadBook, fewest_ahead, book)
            self.assertRaises(BadBook, most_ahead, book)
            self.assertRaises(BadBook, mixed, book, None, None)

    def test_no_row_of_the_book(self):
        for row in NO_ROWS:
            for book in (Book(4, 3, ()), OFF):
                self.assertRaises(BadRow, mixed, book, row, (1, 1, 1, 1))
                self.assertRaises(BadRow, mixed, book, (1, 1, 1, 1), row)

    def test_a_row_that_does_not_fit(self):
        self.assertRaises(BadRow, mixed, FOUR, (1, 3, 0, 0), (2, 2, 0, 0))
        self.assertRaises(BadRow, mixed, FOUR, (2, 2, 0, 0), (1, 3, 0, 0))
        self.assertRaises(BadRow, mixed, OFF, (3, 3, 0, 0), (3, 3, 0, 0))

    def test_no_row(self):
        self.assertRaises(NoRow, fewest_ahead, OFF)
        self.assertRaises(NoRow, most_ahead, OFF)


if __name__ == "__main__":
    unittest.main()
