"""[8] and [9]: all rows of small books, the nearest ones, and what to count to tell them apart."""

import unittest
from itertools import combinations
from random import Random

from stretchtold.books import Book
from stretchtold.errors import BadBook, BadRests, BadRow, NoRow, TooMany
from stretchtold.small import fewest_stretches, nearest, next_stretch, rows
from tests.looking import (GREAT, NO_BOOKS, NO_INTEGERS, NO_ROWS, NO_STRETCHES, all_rows, fitting, numbers_in,
                           possible_books, small_books, stretches, tiny_books)

TOLD = Book(3, 1, ((0, 3, 1, 2),))
FOUR = Book(4, 3, ((0, 2, 4, 4), (1, 3, 0, 2)))
OFF = Book(4, 3, ((0, 2, 7, 9),))
REST = (0, 1, 0)

# Books that are not small, with rows and without.
GREAT_BOOKS = [Book(7, 0, ()), Book(1, 10, ()), Book(5, 5, ()), Book(6, 4, ()), Book(4, 8, ()), Book(20, GREAT, ()),
               Book(7, 0, ((0, 1, 1, 1),)), Book(1, 10, ((0, 1, 11, 11),))]

NO_RESTS = NO_INTEGERS + [REST[:2], REST + (0,), list(REST), "010", 7]
NO_RESTS += [(begin, end, 0) for begin, end in NO_STRETCHES]
NO_RESTS += [(0, 1, figure) for figure in NO_INTEGERS + [-1, 10]]


def with_rests(book, rests):
    return [row for row in fitting(book)
            if all(str(sum(row[begin:end]))[-1] == str(figure) for begin, end, figure in rests)]


def books_and_rests(seed, many):
    """Small books with up to three rests each, most of which some row keeps."""
    random = Random(seed)
    out = []
    books = small_books(seed, many // 2) + possible_books(seed, many // 2)
    for book in books + [Book(2, 9, ((0, 2, 3, 15),)), Book(3, 8, ((0, 2, 9, 13),)), Book(3, 6, ())]:
        row = random.choice(fitting(book) or all_rows(book))
        rests = []
        for begin, end in random.sample(stretches(book), min(random.randint(0, 3), len(stretches(book)))):
            wrong = random.choice([0, 0, 0, 0, 1])
            rests.append((begin, end, (sum(row[begin:end]) + wrong) % 10))
        out.append((book, tuple(rests)))
    return out


def unlike(found, lot):
    """Whether the numbers of all these stretches tell any two rows apart."""
    told = [[sum(row[begin:end]) for begin, end in lot] for row in found]
    return all(one != other for one, other in combinations(told, 2))


def left_at_worst(found, begin, end):
    numbers = [sum(row[begin:end]) for row in found]
    return max(numbers.count(number) for number in numbers)


class ExampleTest(unittest.TestCase):
    def test_example(self):
        self.assertEqual(rows(TOLD, ((0, 2, 0),)), [(0, 0, 1)])
        self.assertEqual(nearest(TOLD, (), (1, 1, 1)), (1, [(0, 1, 1), (1, 0, 1), (1, 1, 0)]))
        self.assertEqual(next_stretch(TOLD, ()), (0, 1, 3))
        self.assertEqual(fewest_stretches(TOLD, ((0, 2, 1),)), ((0, 1), (0, 3)))


class RowsTest(unittest.TestCase):
    def test_all_rows_of_small_books(self):
        many = []
        for book, rests in books_and_rests(31, 400):
            expected = with_rests(book, rests)
            many.append(len(expected))
            self.assertEqual(rows(book, rests), expected)
        self.assertEqual([0 in many, 1 in many, max(many) > 40], [True, True, True])

    def test_the_list_is_ascending_and_full(self):
        found = rows(Book(3, 9, ()), ())
        self.assertEqual([len(found), found[0], found[1], found[10], found[-1]],
                         [1000, (0, 0, 0), (0, 0, 1), (0, 1, 0), (9, 9, 9)])
        self.assertEqual(found, sorted(found))

    def test_a_last_figure_leaves_open_the_others(self):
        self.assertEqual(rows(Book(2, 9, ()), ((0, 2, 2),)),
                         [(0, 2), (1, 1), (2, 0), (3, 9), (4, 8), (5, 7), (6, 6), (7, 5), (8, 4), (9, 3)])
        self.assertEqual(rows(Book(2, 9, ((0, 2, 10, 12),)), ((0, 2, 2), (0, 1, 4))), [(4, 8)])
        # 20 and 30, too, have the last figure 0.
        self.assertEqual([len(rows(Book(3, 9, ((0, 3, low, high),)), ((0, 3, 0),)))
                          for low, high in ((0, 9), (1, 10), (11, 20), (21, 27), (0, 99))], [1, 63, 36, 0, 100])

    def test_no_rests_are_no_more_told(self):
        self.assertEqual(rows(FOUR, ()), fitting(FOUR))

    def test_no_row(self):
        self.assertEqual([rows(OFF, ()), rows(OFF, (REST,)), rows(FOUR, ((0, 2, 5),))], [[], [], []])
        self.assertEqual(rows(FOUR, ((3, 4, 1), (3, 4, 2))), [])

    def test_edges(self):
        self.assertEqual(rows(Book(1, 0, ()), ()), [(0,)])
        self.assertEqual(rows(Book(6, 0, ()), ((0, 6, 0),) * 12), [(0,) * 6])
        self.assertEqual(rows(Book(1, 9, ()), ()), [(number,) for number in range(10)])
        self.assertEqual(rows(Book(1, 9, ()), ((0, 1, 9),)), [(9,)])

    def test_twelve_facts_and_twelve_rests(self):
        facts = tuple([(begin, end, 1, 20) for begin, end in stretches(Book(6, 3, ()))])[:12]
        rests = tuple([(begin, end, end - begin) for begin, end in stretches(Book(6, 3, ()))])[:12]
        book = Book(6, 3, facts)
        self.assertEqual(rows(book, rests), with_rests(book, rests))
        self.assertEqual(rows(book, ()), fitting(book))

    def test_books_just_small_enough(self):
        for cells, most in ((6, 3), (5, 4), (4, 7), (3, 9), (6, 0), (1, 9)):
            self.assertEqual(len(rows(Book(cells, most, ()), ())), (most + 1) ** cells)


class NearestTest(unittest.TestCase):
    def test_all_rows_of_small_books(self):
        many = set()
        for book, rests in books_and_rests(32, 200):
            left = with_rests(book, rests)
            for row in all_rows(book)[:120] if left else []:
                sums = [sum(abs(one - other) for one, other in zip(row, near)) for near in left]
                expected = [near for near, total in zip(left, sums) if total == min(sums)]
                many.add(len(expected))
                self.assertEqual(nearest(book, rests, row), (min(sums), expected))
        self.assertTrue({1, 2, 3} <= many)

    def test_a_row_that_fits_is_the_nearest(self):
        for row in fitting(FOUR):
            self.assertEqual(nearest(FOUR, (), row), (0, [row]))

    def test_differences_to_both_sides(self):
        self.assertEqual(nearest(Book(2, 9, ((0, 1, 5, 5), (0, 2, 8, 8))), (), (9, 9)), (10, [(5, 3)]))
        self.assertEqual(nearest(Book(2, 9, ((0, 1, 5, 5), (0, 2, 8, 8))), (), (9, 0)), (7, [(5, 3)]))
        self.assertEqual(nearest(Book(1, 9, ()), ((0, 1, 3),), (0,)), (3, [(3,)]))

    def test_kinds(self):
        distance, found = nearest(FOUR, (), (0, 0, 0, 0))
        self.assertEqual([type(distance), type(found), type(found[0])], [int, list, tuple])

    def test_no_row(self):
        self.assertRaises(NoRow, nearest, OFF, (), (0, 0, 0, 0))
        self.assertRaises(NoRow, nearest, FOUR, ((0, 2, 5),), (2, 2, 0, 0))


class NextStretchTest(unittest.TestCase):
    def test_all_rows_and_all_stretches(self):
        found = set()
        for book, rests in books_and_rests(33, 800):
            left = with_rests(book, rests)
            if left:
                worst = [left_at_worst(left, begin, end) for begin, end in stretches(book)]
                begin, end = stretches(book)[worst.index(min(worst))]
                found.add((begin, end))
                self.assertEqual(next_stretch(book, rests), (begin, end, min(worst)))
            else:
                self.assertRaises(NoRow, next_stretch, book, rests)
        self.assertGreater(len(found), 4)

    def test_edges(self):
        self.assertEqual(next_stretch(Book(1, 0, ()), ()), (0, 1, 1))
        self.assertEqual(next_stretch(Book(1, 9, ()), ()), (0, 1, 1))
        self.assertEqual(next_stretch(Book(6, 3, ()), ()), (0, 6, 580))
        self.assertEqual(next_stretch(Book(3, 3, ((0, 1, 0, 0), (1, 2, 2, 2))), ()), (0, 3, 1))

    def test_the_worst_number_counts(self):
        # (0, 1) has 3 numbers with 5, 5 and 3 rows; (0, 2) has 4 numbers, with 1, 4, 6 and 2 rows.
        book = Book(3, 2, ((0, 3, 2, 3),))
        self.assertEqual([sorted(numbers_in(rows(book, ()), 0, end)) for end in (1, 2)],
                         [[0] * 5 + [1] * 5 + [2] * 3, [0] + [1] * 4 + [2] * 6 + [3] * 2])
        self.assertEqual(next_stretch(book, ()), (0, 1, 5))
        # Of equally many numbers those of (0, 2) leave fewer rows: 2 instead of 3.
        self.assertEqual(next_stretch(Book(4, 1, ((0, 4, 3, 3),)), ()), (0, 2, 2))
        self.assertEqual(next_stretch(Book(2, 3, ((0, 1, 1, 1),)), ()), (0, 2, 1))

    def test_the_least_of_equal_ones(self):
        self.assertEqual(next_stretch(Book(2, 1, ((0, 2, 1, 1),)), ()), (0, 1, 1))
        self.assertEqual(next_stretch(Book(3, 2, ((0, 1, 2, 2), (2, 3, 1, 1))), ()), (0, 2, 1))

    def test_no_row(self):
        self.assertRaises(NoRow, next_stretch, OFF, ())
        self.assertRaises(NoRow, next_stretch, FOUR, ((0, 2, 5),))


class FewestStretchesTest(unittest.TestCase):
    def test_all_rows_and_all_lots_of_stretches(self):
        sizes = set()
        for book, rests in books_and_rests(34, 250) + [(book, ()) for book in tiny_books()[::5]]:
            left = with_rests(book, rests)
            lots = [lot for size in range(len(stretches(book)) + 1) for lot in combinations(stretches(book), size)]
            expected = next(lot for lot in lots if unlike(left, lot)) if len(left) < 150 else None
            if expected is not None:
                sizes.add(len(expected))
                self.assertEqual(fewest_stretches(book, rests), expected)
        self.assertEqual(sizes, {0, 1, 2, 3, 4})

    def test_at_most_one_row_needs_no_stretch(self):
        self.assertEqual(fewest_stretches(Book(4, 0, ()), ()), ())
        self.assertEqual(fewest_stretches(FOUR, ((0, 2, 5),)), ())
        self.assertEqual(fewest_stretches(OFF, ()), ())
        self.assertEqual(fewest_stretches(Book(3, 1, ((0, 3, 3, 3),)), ()), ())

    def test_edges(self):
        self.assertEqual(fewest_stretches(Book(1, 9, ()), ()), ((0, 1),))
        self.assertEqual(fewest_stretches(Book(2, 9, ()), ()), ((0, 1), (0, 2)))
        self.assertEqual(fewest_stretches(Book(4, 7, ()), ()), ((0, 1), (0, 2), (0, 3), (0, 4)))
        self.assertEqual(fewest_stretches(Book(4, 7, ((1, 3, 0, 0),)), ((3, 4, 5),)), ((0, 1),))

    def test_four_cells_and_five(self):
        self.assertEqual(fewest_stretches(Book(4, 0, ()), ()), ())
        for book in (Book(5, 0, ()), Book(5, 1, ()), Book(6, 0, ()), Book(5, 1, ((0, 5, 9, 9),))):
            self.assertRaises(TooMany, fewest_stretches, book, ())
            self.assertRaises(BadRests, fewest_stretches, book, None)


class WrongTest(unittest.TestCase):
    def calls(self, book, rests):
        return [(rows, (book, rests)), (nearest, (book, rests, None)), (next_stretch, (book, rests)),
                (fewest_stretches, (book, rests))]

    def test_no_book(self):
        for book in NO_BOOKS:
            for ask, given in self.calls(book, None):
                self.assertRaises(BadBook, ask, *given)

    def assert_bad_rests(self, rests, index):
        for book in [FOUR, OFF, Book(4, 10, ())]:
            for ask, given in self.calls(book, rests):
                with self.subTest(ask=ask, rests=rests), self.assertRaises(BadRests) as caught:
                    ask(*given)
                self.assertEqual(caught.exception.index, index)
                self.assertIs(type(caught.exception.index), type(index))

    def test_rests_that_are_no_tuple_or_too_many(self):
        for rests in [None, True, 0, "", "rest", [], [REST], {}, {0: REST}, FOUR, (REST,) * 13, (None,) * 13]:
            self.assert_bad_rests(rests, None)

    def test_wrong_rests(self):
        for value in NO_RESTS:
            self.assert_bad_rests((value,), 0)
            self.assert_bad_rests((REST,) * 11 + (value,), 11)
        self.assert_bad_rests((REST, (3, 5, 0), REST, None), 1)

    def test_no_row_of_the_book(self):
        for row in NO_ROWS:
            for book in (FOUR, OFF):
                self.assertRaises(BadRow, nearest, book, (), row)
        self.assertRaises(BadRow, nearest, Book(7, 0, ()), (), (0,) * 6)
        self.assertRaises(BadRow, nearest, Book(1, 10, ()), (), (11,))

    def test_too_many(self):
        for book in GREAT_BOOKS:
            for ask in (rows, next_stretch, fewest_stretches):
                self.assertRaises(TooMany, ask, book, ())
                self.assertRaises(BadRests, ask, book, (None,))
            self.assertRaises(TooMany, nearest, book, (), (0,) * book.cells)
            self.assertRaises(BadRests, nearest, book, (None,), (0,) * book.cells)
            self.assertRaises(BadRow, nearest, book, (), None)


if __name__ == "__main__":
    unittest.main()
