"""[10]: which counters are off by one."""

import unittest
from itertools import combinations

from stretchtold.books import Book
from stretchtold.bounding import is_possible
from stretchtold.errors import BadBook
from stretchtold.small import fewest_off
from tests.looking import GREAT, NO_BOOKS, fitting, great_books, lots, shortest, small_books, tiny_books


def with_off(facts, lot):
    """The facts, those of a lot with one thing less, or more, than is told."""
    return tuple([(begin, end, max(0, low - 1), high + 1) if index in lot else (begin, end, low, high)
                  for index, (begin, end, low, high) in enumerate(facts)])


def lots_off(book):
    """What fewest_off is to tell, by all rows and all lots of facts."""
    return shortest([lot for lot in lots(book.facts) if fitting(book, with_off(book.facts, lot))])


def great_of(book):
    """A book of great numbers: how many things there are less than the greatest number in each cell."""
    facts = [(begin, end, (end - begin) * GREAT - high, (end - begin) * GREAT - low)
             for begin, end, low, high in book.facts]
    return Book(20, GREAT, tuple(facts))


class ExampleTest(unittest.TestCase):
    def test_example(self):
        self.assertEqual([fewest_off(Book(3, 1, ((0, 3, 1, 2),))), fewest_off(Book(2, 1, ((0, 2, 3, 3),))),
                          fewest_off(Book(1, 9, ((0, 1, 1, 1), (0, 1, 3, 3), (0, 1, 4, 4))))], [[()], [(0,)], []])


class AllLotsTest(unittest.TestCase):
    def test_small_books(self):
        kinds = set()
        for book in small_books(41, 500) + tiny_books():
            expected = lots_off(book)
            kinds.add(len(expected[0]) if expected else None)
            self.assertEqual(fewest_off(book), expected)
        self.assertTrue({None, 0, 1, 2} <= kinds)

    def test_many_facts(self):
        sizes = set()
        for spare in range(6):
            facts = [(0, 1, 2, 2), (1, 2, 1, 1), (0, 2, 3 + spare, 3 + spare), (2, 3, 2, 2), (1, 3, 2, 2),
                     (0, 1, 1, 2), (0, 3, 3 + spare, 9), (2, 3, 3, 3)]
            book = Book(3, 4, tuple(facts))
            expected = lots_off(book)
            sizes.add(len(expected[0]) if expected else None)
            self.assertEqual(fewest_off(book), expected)
        self.assertTrue({2, 3, 5, None} <= sizes, sizes)

    def test_great_numbers(self):
        # In the small books most is no limit that counts: more is in no cell, whichever facts are off.
        kinds = set()
        for book in small_books(42, 400):
            if book.cells < 4 and len(book):
                facts = tuple([(begin, end, low // 2, high // 2) for begin, end, low, high in book.facts])
                most = max(high for _, _, _, high in facts) + 1
                small = Book(book.cells, most, facts)
                expected = lots_off(small)
                kinds.add(len(expected[0]) if expected else None)
                self.assertEqual(fewest_off(great_of(small)), expected)
        self.assertTrue({None, 0, 1, 2} <= kinds, kinds)


class EdgeTest(unittest.TestCase):
    def test_one_cell(self):
        self.assertEqual(fewest_off(Book(1, 0, ())), [()])
        self.assertEqual(fewest_off(Book(1, 0, ((0, 1, 1, 1),))), [(0,)])
        self.assertEqual(fewest_off(Book(1, 0, ((0, 1, 2, 2),))), [])
        self.assertEqual(fewest_off(Book(1, 9, ((0, 1, 4, 4), (0, 1, 5, 5)))), [(0,), (1,)])
        self.assertEqual(fewest_off(Book(1, 9, ((0, 1, 4, 4), (0, 1, 6, 6)))), [(0, 1)])
        self.assertEqual(fewest_off(Book(1, 9, ((0, 1, 4, 4), (0, 1, 7, 7)))), [])

    def test_less_and_more(self):
        self.assertEqual(fewest_off(Book(2, 3, ((0, 2, 7, 9),))), [(0,)])
        self.assertEqual(fewest_off(Book(2, 3, ((0, 2, 0, 0), (0, 1, 1, 3)))), [(0,), (1,)])
        self.assertEqual(fewest_off(Book(2, 3, ((0, 2, 0, 0), (0, 1, 1, 1), (1, 2, 1, 1)))), [(0, 1), (0, 2), (1, 2)])

    def test_the_same_fact_twice(self):
        self.assertEqual(fewest_off(Book(2, 3, ((0, 2, 7, 9), (0, 2, 7, 9)))), [(0, 1)])
        self.assertEqual(fewest_off(Book(1, 9, ((0, 1, 4, 4), (0, 1, 5, 5), (0, 1, 4, 4)))), [(1,)])

    def test_twelve_facts(self):
        self.assertEqual(fewest_off(Book(20, GREAT, ((0, 20, 20 * GREAT, 10 ** 32),) * 12)), [()])
        self.assertEqual(fewest_off(Book(20, GREAT, ((0, 20, 20 * GREAT + 1, 10 ** 32),) * 12)), [tuple(range(12))])
        self.assertEqual(fewest_off(Book(20, GREAT, ((0, 20, 20 * GREAT + 2, 10 ** 32),) * 12)), [])
        self.assertEqual(fewest_off(Book(20, 0, tuple([(cell, cell + 1, cell % 2, 1) for cell in range(12)]))),
                         [(1, 3, 5, 7, 9, 11)])

    def test_four_times_three_facts(self):
        # Of each three any two can be off: the whole is told with 2 things more than both parts.
        facts = []
        for begin in (0, 5, 10, 15):
            facts += [(begin, begin + 2, GREAT, GREAT), (begin + 2, begin + 4, 7, 7),
                      (begin, begin + 4, GREAT + 9, GREAT + 9)]
        found = fewest_off(Book(20, GREAT, tuple(facts)))
        pairs = [[tuple([3 * part + at for at in pair]) for pair in ((0, 1), (0, 2), (1, 2))] for part in range(4)]
        expected = [one + two + three + four for one in pairs[0] for two in pairs[1]
                    for three in pairs[2] for four in pairs[3]]
        self.assertEqual(found, expected)

    def test_no_limit_of_rows(self):
        self.assertEqual(fewest_off(Book(20, 9, ((0, 20, 181, 181),))), [(0,)])


class GreatTest(unittest.TestCase):
    def test_some_row_fits(self):
        for book, _ in great_books(43, 4):
            self.assertEqual(fewest_off(book), [()])

    def test_numbers_that_are_told_wrongly(self):
        sizes = set()
        for seed in range(44, 48):
            for book, row in great_books(seed, 3):
                found = fewest_off(self.wrongly_told(book, row))
                sizes.add(len(found[0]) if found else None)
                self.check_lots(self.wrongly_told(book, row), found)
        self.assertTrue({3, 4} <= sizes, sizes)

    def wrongly_told(self, book, row):
        """The book with three stretches told twice: alike, one thing apart, two things apart."""
        facts = list(book.facts)
        for apart, index in enumerate((1, 4, 7)):
            begin, end = facts[index][:2]
            there = sum(row[begin:end])
            facts[index] = (begin, end, there, there)
            facts[index + 1] = (begin, end, there + apart, there + apart)
        return Book(20, GREAT, tuple(facts))

    def check_lots(self, book, found):
        if found:
            self.assertEqual(found, self.lots_of_size(book, len(found[0])))
            self.assertEqual(self.lots_of_size(book, len(found[0]) - 1), [])
        else:
            self.assertEqual(self.lots_of_size(book, 12), [])

    def lots_of_size(self, book, size):
        return [lot for lot in combinations(range(len(book)), size)
                if is_possible(Book(20, GREAT, with_off(book.facts, lot)))]


class WrongTest(unittest.TestCase):
    def test_no_book(self):
        for book in NO_BOOKS:
            self.assertRaises(BadBook, fewest_off, book)


if __name__ == "__main__":
    unittest.main()
