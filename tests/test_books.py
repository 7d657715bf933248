"""[2] and the first part of [3]: Book and broken."""

import unittest

from stretchtold.books import Book, broken
from stretchtold.errors import BadBook, BadCells, BadFacts, BadMost, BadRow
from stretchtold.rings import Ring
from tests.looking import GREAT, NO_BOOKS, NO_INTEGERS, NO_ROWS, all_rows, row_fits, small_books

TOLD = Book(4, 3, ((0, 2, 4, 4), (1, 3, 0, 2)))
FACT = (0, 1, 0, 1)


class BookTest(unittest.TestCase):
    def test_example(self):
        self.assertEqual([TOLD.cells, TOLD.most, len(TOLD)], [4, 3, 2])
        self.assertEqual(TOLD.facts, ((0, 2, 4, 4), (1, 3, 0, 2)))

    def test_limits_may_be_reached(self):
        far = Book(20, GREAT, ((0, 20, 0, 10 ** 32),) * 12)
        self.assertEqual((far.cells, far.most, far.facts, len(far)), (20, GREAT, ((0, 20, 0, 10 ** 32),) * 12, 12))
        near = Book(1, 0, ())
        self.assertEqual((near.cells, near.most, near.facts, len(near)), (1, 0, (), 0))
        self.assertEqual(len(Book(20, 0, ((19, 20, 10 ** 32, 10 ** 32),))), 1)

    def test_properties_cannot_be_set(self):
        for name in ("cells", "most", "facts"):
            with self.assertRaises(AttributeError):
                setattr(Book(2, 2, ()), name, ())

    def test_equal_if_all_three_are(self):
        self.assertTrue(Book(2, 3, (FACT,)) == Book(2, 3, (FACT,)))
        self.assertFalse(Book(2, 3, (FACT,)) != Book(2, 3, (FACT,)))
        for other in (Book(3, 3, (FACT,)), Book(2, 4, (FACT,)), Book(2, 3, ()), Book(2, 3, (FACT, FACT)),
                      Book(2, 3, ((0, 1, 0, 2),))):
            self.assertFalse(Book(2, 3, (FACT,)) == other)
            self.assertTrue(Book(2, 3, (FACT,)) != other)

    def test_the_order_of_facts_counts(self):
        self.assertNotEqual(Book(2, 3, (FACT, (0, 2, 0, 1))), Book(2, 3, ((0, 2, 0, 1), FACT)))

    def test_equal_to_nothing_of_another_kind(self):
        for other in (None, True, 0, "", (), (2, 3, ()), [2, 3, ()], {}, Ring(2, 3, ())):
            self.assertFalse(Book(2, 3, ()) == other)
            self.assertFalse(other == Book(2, 3, ()))

    def test_wrong_cells(self):
        for cells in NO_INTEGERS + [0, -1, 21, 10 ** 30]:
            with self.subTest(cells=cells), self.assertRaises(BadCells):
                Book(cells, 1, ())

    def test_wrong_most(self):
        for most in NO_INTEGERS + [-1, GREAT + 1]:
            with self.subTest(most=most), self.assertRaises(BadMost):
                Book(1, most, ())

    def assert_bad_facts(self, cells, facts, index):
        with self.subTest(facts=facts), self.assertRaises(BadFacts) as caught:
            Book(cells, 1, facts)
        self.assertEqual(caught.exception.index, index)
        self.assertIs(type(caught.exception.index), type(index))

    def test_facts_that_are_no_tuple(self):
        for facts in [None, True, 0, 1, "", "fact", [], [FACT], {}, {0: FACT}, Book(1, 1, ())]:
            self.assert_bad_facts(1, facts, None)

    def test_more_than_twelve_facts(self):
        self.assert_bad_facts(1, (FACT,) * 13, None)
        self.assert_bad_facts(1, (None,) * 13, None)

    def test_wrong_facts(self):
        wrong = NO_INTEGERS + [FACT[:3], FACT + (1,), list(FACT), "0101", 7]
        wrong += [(0, 0, 0, 1), (1, 0, 0, 1), (-1, 1, 0, 1), (0, 4, 0, 1), (3, 4, 0, 1), (3, 3, 0, 0)]
        wrong += [(0, 1, -1, 1), (0, 1, 2, 1), (0, 1, 0, 10 ** 32 + 1), (0, 1, 10 ** 32 + 1, 10 ** 32 + 1)]
        for place in range(4):
            wrong += [(0, 1, 0, 1)[:place] + (value,) + (0, 1, 0, 1)[place + 1:] for value in NO_INTEGERS]
        for value in wrong:
            self.assert_bad_facts(3, (value,), 0)
            self.assert_bad_facts(3, (FACT,) * 11 + (value,), 11)

    def test_the_first_wrong_fact_is_named(self):
        self.assert_bad_facts(3, (FACT, None, FACT, (0, 0, 0, 0)), 1)

    def test_the_first_wrong_argument_counts(self):
        with self.assertRaises(BadCells):
            Book(True, -1, None)
        with self.assertRaises(BadMost):
            Book(1, True, None)


class BrokenTest(unittest.TestCase):
    def test_example(self):
        self.assertEqual([broken(TOLD, (1, 3, 0, 0)), broken(TOLD, (2, 2, 1, 0)), broken(TOLD, (0, 0, 3, 0))],
                         [[1], [1], [0, 1]])

    def test_all_rows_of_small_books(self):
        for book in small_books(1, 60):
            for row in all_rows(book):
                expected = [index for index, fact in enumerate(book.facts) if not row_fits((fact,), row)]
                self.assertEqual(broken(book, row), expected)

    def test_both_bounds_belong_to_a_fact(self):
        book = Book(1, 9, ((0, 1, 3, 5),))
        self.assertEqual([broken(book, (number,)) for number in range(2, 7)], [[0], [], [], [], [0]])

    def test_great_numbers(self):
        book = Book(20, GREAT, ((0, 20, 20 * GREAT, 20 * GREAT), (0, 20, 0, 20 * GREAT - 1)))
        self.assertEqual(broken(book, (GREAT,) * 20), [1])
        self.assertEqual(broken(book, (GREAT,) * 19 + (GREAT - 1,)), [0])

    def test_no_book(self):
        for book in NO_BOOKS:
            with self.subTest(book=book), self.assertRaises(BadBook):
                broken(book, None)

    def test_no_row(self):
        for row in NO_ROWS:
            with self.subTest(row=row), self.assertRaises(BadRow):
                broken(TOLD, row)


if __name__ == "__main__":
    unittest.main()
