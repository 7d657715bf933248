"""[13] and [14]: two books against one another, and the fewest facts that say the same."""

import unittest
from itertools import product
from random import Random

from stretchtold.books import Book, broken
from stretchtold.bounding import bounds
from stretchtold.errors import BadBook, NoRow, NotAlike
from stretchtold.two import alike, closed, first_unlike, smallest_kept, within
from tests.looking import (GREAT, NO_BOOKS, fitting, great_books, lift, lifted, lots, numbers_in, possible_books,
                           random_fact, shortest, small_books, stretches, times, tiny_books)

TOLD = Book(2, 3, ((0, 2, 4, 4),))
LESS = Book(2, 3, ((0, 2, 4, 4), (0, 1, 2, 9)))
OFF = Book(2, 3, ((0, 2, 7, 9),))
PAIR_CALLS = (within, alike, first_unlike)


def related(random, book):
    """A book that has much in common with a book."""
    facts, most = list(book.facts), book.most
    way = random.randrange(5)
    if way == 0 and facts:
        del facts[random.randrange(len(facts))]
    elif way == 1:
        facts.append(random_fact(random, book.cells, book.cells * most + 1))
    elif way == 2:
        most += random.choice([1, -1]) if most else 1
    elif way == 3:
        facts = [(begin, end, low, high + random.choice([0, 0, 1])) for begin, end, low, high in reversed(facts)]
    else:
        facts += [(0, book.cells, 0, book.cells * most)]
    return Book(book.cells, most, tuple(facts))


def pairs_of_books(seed, many):
    """Pairs of books with equally many cells; of many the one is made of the other."""
    random = Random(seed)
    books = small_books(seed, many) + possible_books(seed, many)
    pairs = [(book, related(random, book)) for book in books]
    pairs += [(one, other) for one, other in zip(books, books[1:]) if one.cells == other.cells]
    return pairs + [(other, one) for one, other in pairs] + [(book, book) for book in books[::9]]


def unlike_rows(one, other):
    return sorted(set(fitting(one)) ^ set(fitting(other)))


class ExampleTest(unittest.TestCase):
    def test_two_books(self):
        self.assertEqual([within(LESS, TOLD), within(TOLD, LESS), first_unlike(TOLD, LESS)], [True, False, (1, 3)])
        self.assertIs(alike(TOLD, Book(2, 3, ((0, 2, 4, 4), (0, 1, 1, 3)))), True)
        self.assertEqual(closed(LESS), [(0, 1, 2, 3), (0, 2, 4, 4), (1, 2, 1, 2)])

    def test_smallest_kept(self):
        self.assertEqual(smallest_kept(Book(3, 1, ((0, 3, 3, 3), (0, 1, 1, 1), (1, 2, 1, 1), (2, 3, 1, 1)))), [(0,)])


class AllRowsTest(unittest.TestCase):
    def check_pair(self, one, other):
        unlike = unlike_rows(one, other)
        self.assertIs(within(one, other), set(fitting(one)) <= set(fitting(other)))
        self.assertIs(alike(one, other), not unlike)
        self.assertEqual(first_unlike(one, other), unlike[0] if unlike else None)
        return within(one, other), within(other, one), bool(fitting(one)), bool(fitting(other))

    def test_small_books(self):
        kinds = {self.check_pair(one, other) for one, other in pairs_of_books(51, 250)}
        # Where no row fits, all of them fit any book; where some does, they do not fit one that none fits.
        for both in product((True, False), repeat=2):
            self.assertIn(both + (True, True), kinds)
        self.assertTrue({(True, True, False, False), (True, False, False, True), (False, True, True, False)} <= kinds)
        self.assertFalse({(True, True, False, True), (False, True, False, True)} & kinds)

    def test_tiny_books(self):
        books = tiny_books()[::7]
        for one, other in product(books, repeat=2):
            self.check_pair(one, other)

    def test_closed(self):
        for book in small_books(52, 250) + possible_books(52, 100) + tiny_books():
            rows = fitting(book)
            numbers = [(begin, end, numbers_in(rows, begin, end)) for begin, end in stretches(book)]
            if rows:
                expected = [(begin, end, min(there), max(there)) for begin, end, there in numbers]
                self.assertEqual(closed(book), expected)
            else:
                self.assertRaises(NoRow, closed, book)

    def test_alike_just_if_closed_tells_the_same(self):
        for one, other in pairs_of_books(53, 100):
            if fitting(one) and fitting(other):
                self.assertIs(alike(one, other), closed(one) == closed(other))

    def test_great_numbers(self):
        kinds = set()
        for one, other in pairs_of_books(54, 60):
            if one.most == other.most:
                unlike = unlike_rows(one, other)
                great = lifted(one), lifted(other)
                kinds.add((within(*great), within(*great[::-1])))
                self.assertIs(within(*great), set(fitting(one)) <= set(fitting(other)))
                self.assertEqual(first_unlike(*great), lift(one, unlike[0]) if unlike else None)
                self.assertIs(alike(*great), not unlike)
        self.assertEqual(len(kinds), 4)


class PairEdgeTest(unittest.TestCase):
    def test_most_is_a_limit_too(self):
        self.assertEqual([within(Book(2, 3, ()), Book(2, 2, ())), within(Book(2, 2, ()), Book(2, 3, ()))],
                         [False, True])
        self.assertEqual(first_unlike(Book(2, 3, ()), Book(2, 2, ())), (0, 3))
        self.assertIs(alike(Book(2, 9, ((0, 1, 0, 2), (1, 2, 0, 2))), Book(2, 2, ())), True)
        self.assertIs(alike(Book(2, 9, ((0, 2, 0, 2),)), Book(2, 2, ((0, 2, 0, 2),))), True)
        self.assertIs(within(Book(2, 9, ((0, 2, 0, 3),)), Book(2, 2, ((0, 2, 0, 3),))), False)
        self.assertEqual(first_unlike(Book(20, GREAT, ()), Book(20, GREAT - 1, ())), (0,) * 19 + (GREAT,))
        self.assertIs(within(Book(20, GREAT - 1, ()), Book(20, GREAT, ())), True)

    def test_no_row_fits(self):
        none = Book(2, 0, ((0, 1, 1, 1),))
        self.assertEqual([within(OFF, TOLD), within(TOLD, OFF), within(OFF, none), alike(OFF, none)],
                         [True, False, True, True])
        self.assertEqual([first_unlike(OFF, none), first_unlike(OFF, TOLD), first_unlike(TOLD, OFF)],
                         [None, (1, 3), (1, 3)])

    def test_one_cell(self):
        self.assertEqual(first_unlike(Book(1, 5, ((0, 1, 2, 4),)), Book(1, 4, ((0, 1, 2, 9),))), None)
        self.assertEqual(first_unlike(Book(1, 5, ((0, 1, 2, 4),)), Book(1, 5, ((0, 1, 2, 9),))), (5,))
        self.assertEqual(first_unlike(Book(1, 5, ((0, 1, 2, 4),)), Book(1, 5, ((0, 1, 1, 4),))), (1,))
        self.assertIs(alike(Book(1, 0, ()), Book(1, 9, ((0, 1, 0, 0),))), True)

    def test_the_least_of_both_sides(self):
        low, high = Book(2, 3, ((0, 1, 0, 1),)), Book(2, 3, ((0, 1, 1, 2),))
        self.assertEqual([first_unlike(low, high), first_unlike(high, low)], [(0, 0), (0, 0)])

    def test_facts_told_otherwise(self):
        whole, part = 10 ** 31, 123456789012345678901234567890
        one = Book(20, GREAT, ((0, 10, part, part), (10, 20, whole - part, whole - part)))
        other = Book(20, GREAT, ((0, 20, whole, whole), (0, 10, part, 10 ** 32), (10, 20, whole - part, 10 ** 32)))
        self.assertIs(alike(one, other), True)
        self.assertIsNone(first_unlike(one, other))
        more = Book(20, GREAT, other.facts[:2] + ((10, 20, whole - part - 1, 10 ** 32),))
        self.assertIs(alike(more, Book(20, GREAT, ((0, 20, whole, whole), (0, 10, part, part + 1)))), True)
        self.assertEqual([within(one, more), within(more, one), alike(more, one)], [True, False, False])
        row = first_unlike(one, more)
        self.assertEqual([broken(more, row), broken(one, row), sum(row[:10])], [[], [0, 1], part + 1])

    def test_great_books(self):
        for book, row in great_books(55, 4):
            begin, end = book.facts[0][:2]
            there = sum(row[begin:end])
            facts = book.facts[1:] + ((begin, end, there, there),)
            tight = Book(20, GREAT, facts)
            loose = Book(20, GREAT, book.facts[1:])
            self.assertEqual([within(tight, book), within(book, loose), within(tight, loose)], [True, True, True])
            self.assertEqual(first_unlike(tight, loose) is None, bounds(loose, begin, end) == (there, there))
            unlike = first_unlike(tight, loose)
            if unlike is not None:
                self.assertEqual([broken(loose, unlike), broken(tight, unlike)], [[], [11]])


class ClosedEdgeTest(unittest.TestCase):
    def test_edges(self):
        self.assertEqual(closed(Book(1, 0, ())), [(0, 1, 0, 0)])
        self.assertEqual(closed(Book(2, 9, ())), [(0, 1, 0, 9), (0, 2, 0, 18), (1, 2, 0, 9)])
        self.assertEqual(closed(Book(20, GREAT, ())), [(begin, end, 0, (end - begin) * GREAT)
                                                       for begin, end in stretches(Book(20, 0, ()))])

    def test_great_numbers(self):
        for book in possible_books(56, 60):
            wide = times(book, 10 ** 29)
            near = [told for told in closed(wide) if told[1] <= book.cells]
            self.assertEqual(near, [(begin, end, least * 10 ** 29, greatest * 10 ** 29)
                                    for begin, end, least, greatest in closed(book)])
        for book, _ in great_books(57, 3):
            self.assertEqual(closed(book), [(begin, end) + bounds(book, begin, end) for begin, end in stretches(book)])

    def test_kinds(self):
        found = closed(LESS)
        self.assertEqual([type(found), type(found[0])], [list, tuple])


class SmallestKeptTest(unittest.TestCase):
    def kept(self, book):
        return shortest([lot for lot in lots(book.facts)
                         if fitting(book, [book.facts[index] for index in lot]) == fitting(book)])

    def test_all_rows_and_all_lots(self):
        kinds = set()
        for book in small_books(58, 300) + possible_books(58, 150) + tiny_books():
            expected = self.kept(book)
            kinds.add((len(expected[0]), bool(fitting(book))))
            self.assertEqual(smallest_kept(book), expected)
            if book.cells * book.most:
                self.assertEqual(smallest_kept(times(book, 10 ** 29)), expected)
        self.assertTrue({(0, True), (1, True), (2, True), (3, True), (1, False), (2, False)} <= kinds, kinds)

    def test_twelve_facts(self):
        pairs = [(0, 2, 2, 2), (2, 4, 1, 1), (0, 4, 3, 3)]
        whole = [(0, 4, 0, 7), (0, 1, 0, 2), (1, 2, 0, 2), (0, 2, 2, 2), (2, 3, 0, 1), (3, 4, 0, 1),
                 (1, 3, 0, 3), (1, 4, 1, 3), (0, 3, 2, 3)]
        for facts in (pairs + whole, whole + pairs, pairs[:2] + whole + [(0, 1, 1, 1)]):
            book = Book(4, 2, tuple(facts))
            expected = self.kept(book)
            self.assertEqual(smallest_kept(book), expected)
            self.assertEqual(smallest_kept(times(book, 10 ** 29)), expected)

    def test_no_fact_is_needed(self):
        self.assertEqual(smallest_kept(Book(1, 0, ())), [()])
        self.assertEqual(smallest_kept(Book(3, 2, ((0, 3, 0, 6), (1, 2, 0, 10 ** 32)))), [()])
        self.assertEqual(smallest_kept(Book(20, GREAT, ((0, 20, 0, 10 ** 32),) * 12)), [()])

    def test_the_same_fact_twice(self):
        self.assertEqual(smallest_kept(Book(2, 3, ((0, 2, 3, 3), (0, 2, 3, 3)))), [(0,), (1,)])
        self.assertEqual(smallest_kept(Book(20, GREAT, ((3, 9, GREAT, GREAT),) * 12)), [(at,) for at in range(12)])

    def test_no_row_fits(self):
        self.assertEqual(smallest_kept(OFF), [(0,)])
        self.assertEqual(smallest_kept(Book(2, 3, ((0, 1, 1, 1), (0, 1, 2, 2), (0, 1, 0, 1)))), [(0, 1), (1, 2)])
        self.assertEqual(smallest_kept(Book(2, 3, ((0, 1, 1, 1), (0, 1, 2, 2), (0, 2, 7, 7)))), [(2,)])

    def test_all_facts_are_needed(self):
        facts = tuple([(cell, cell + 1, 1, 10 ** 32) for cell in range(12)])
        self.assertEqual(smallest_kept(Book(20, GREAT, facts)), [tuple(range(12))])

    def test_any_two_of_three_facts(self):
        facts = []
        for begin in (0, 5, 10, 15):
            facts += [(begin, begin + 2, GREAT, GREAT), (begin + 2, begin + 4, 7, 7),
                      (begin, begin + 4, GREAT + 7, GREAT + 7)]
        pairs = [[tuple([3 * part + at for at in pair]) for pair in ((0, 1), (0, 2), (1, 2))] for part in range(4)]
        expected = [one + two + three + four for one in pairs[0] for two in pairs[1]
                    for three in pairs[2] for four in pairs[3]]
        self.assertEqual(smallest_kept(Book(20, GREAT, tuple(facts))), expected)

    def test_great_books(self):
        for book, _ in great_books(59, 3):
            found = smallest_kept(book)
            self.assertEqual(found, sorted(found))
            for lot in found:
                facts = [book.facts[index] for index in lot]
                self.assertIs(alike(Book(20, GREAT, tuple(facts)), book), True)
                for index in range(len(facts)):
                    fewer = Book(20, GREAT, tuple(facts[:index] + facts[index + 1:]))
                    self.assertIs(alike(fewer, book), False)


class WrongTest(unittest.TestCase):
    def test_no_book(self):
        for book in NO_BOOKS:
            for ask in PAIR_CALLS:
                self.assertRaises(BadBook, ask, book, TOLD)
                self.assertRaises(BadBook, ask, TOLD, book)
                self.assertRaises(BadBook, ask, Book(3, 3, ()), book)
            self.assertRaises(BadBook, closed, book)
            self.assertRaises(BadBook, smallest_kept, book)

    def test_other_cells(self):
        for other in (Book(1, 3, ()), Book(3, 3, ()), Book(20, GREAT, ()), Book(3, 3, ((0, 2, 7, 9),))):
            for ask in PAIR_CALLS:
                self.assertRaises(NotAlike, ask, TOLD, other)
                self.assertRaises(NotAlike, ask, other, TOLD)
                self.assertRaises(NotAlike, ask, OFF, other)

    def test_no_row(self):
        self.assertRaises(NoRow, closed, OFF)


if __name__ == "__main__":
    unittest.main()
