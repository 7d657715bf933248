"""[17]: counters that are off by much, and loops of links that show by how much at least."""

import unittest
from itertools import product
from random import Random

from stretchtold.bounding import is_possible, least_row
from stretchtold.books import Book
from stretchtold.chains import clash, is_clash
from stretchtold.errors import BadBook, BadNumber
from stretchtold.near import least_off, off_paper, off_row, shows_off
from stretchtold.small import fewest_off
from tests.looking import (GREAT, NO_BOOKS, NO_INTEGERS, all_links, all_rows, great_books, loop_shows, no_links,
                           possible_books, random_fact, small_books, tiny_books, to_and_fro)

OFF = Book(2, 9, ((0, 1, 2, 2), (1, 2, 3, 3), (0, 2, 10, 10)))
CHAIN = (("fact", 2, -1), ("fact", 0, 1), ("fact", 1, 1))


def off_by(book, row):
    """By how many things the fact that a row keeps to least is off."""
    there = [(sum(row[begin:end]), low, high) for begin, end, low, high in book.facts]
    return max([0] + [max(low - number, number - high) for number, low, high in there])


def loose(book, spare):
    """The book with so many things to spare in each fact, as far as numbers in facts go."""
    facts = [(begin, end, max(0, low - spare), min(10 ** 32, high + spare)) for begin, end, low, high in book.facts]
    return Book(book.cells, book.most, tuple(facts))


def wild_books(seed, many):
    """Books at the limits whose facts have nothing to do with one another."""
    random = Random(seed)
    return [Book(20, GREAT, tuple([random_fact(random, 20, 10 ** 31) for _ in range(12)])) for _ in range(many)]


class ExampleTest(unittest.TestCase):
    def test_example(self):
        self.assertEqual([least_off(OFF), off_row(OFF)], [2, (3, 5)])
        self.assertIs(shows_off(OFF, 2, off_paper(OFF)), True)
        self.assertIs(shows_off(OFF, 2, CHAIN), True)


class OffTest(unittest.TestCase):
    def check_paper(self, book, least):
        found = off_paper(book)
        if least == 0:
            self.assertIsNone(found)
            return
        self.assertIs(type(found), tuple)
        self.assertTrue(1 <= len(found) <= 40)
        for number in (1, least, least + 1, least + GREAT):
            expected = loop_shows(book, found, "fact", number)
            self.assertIs(shows_off(book, number, found), expected)
            self.assertIs(expected, number <= least)

    def test_all_rows_of_small_books(self):
        seen = set()
        for book in small_books(81, 300) + possible_books(81, 30) + tiny_books():
            rows = all_rows(book)
            least = min(off_by(book, row) for row in rows)
            seen.add(least)
            self.assertEqual(least_off(book), least)
            self.assertEqual(off_row(book), min(row for row in rows if off_by(book, row) == least))
            self.check_paper(book, least)
        self.assertTrue({0, 1, 2, 3} <= seen)

    def check_great(self, book):
        """What one row shows from above, and a loop from below, can be nothing else."""
        least, found = least_off(book), off_row(book)
        self.assertEqual(off_by(book, found), least)
        self.assertEqual([type(found), found], [tuple, least_row(loose(book, least))])
        self.assertTrue(least == 0 or not is_possible(loose(book, least - 1)))
        self.check_paper(book, least)
        return least

    def test_great_books(self):
        for book, _ in great_books(82, 4):
            self.assertEqual(self.check_great(book), 0)
        found = [self.check_great(book) for book in wild_books(82, 12)]
        self.assertTrue(min(found) > 0 and max(found) > GREAT)

    def test_a_distance_of_thirty_figures(self):
        self.assertEqual(self.check_great(Book(1, GREAT, ((0, 1, 0, 0), (0, 1, GREAT - 1, GREAT)))), GREAT // 2)
        self.assertEqual(off_row(Book(1, GREAT, ((0, 1, 0, 0), (0, 1, GREAT - 1, GREAT)))), (GREAT // 2 - 1,))

    def test_the_greatest_number_of_all(self):
        self.assertEqual(self.check_great(Book(1, 0, ((0, 1, 10 ** 32, 10 ** 32),))), 10 ** 32)
        self.assertEqual(self.check_great(Book(20, GREAT, ((0, 20, 10 ** 32, 10 ** 32),) * 12)), 8 * 10 ** 31)

    def test_edges(self):
        self.assertEqual(self.check_great(Book(1, 0, ())), 0)
        self.assertEqual(self.check_great(Book(20, GREAT, ())), 0)
        self.assertEqual(self.check_great(Book(20, 0, ((0, 20, 0, 10 ** 32),) * 12)), 0)
        self.assertEqual(self.check_great(Book(20, 0, ((0, 20, 3, 5),) * 12)), 3)
        self.assertEqual(self.check_great(Book(1, 5, ((0, 1, 9, 9),))), 4)
        self.assertEqual(off_row(Book(1, 5, ((0, 1, 9, 9),))), (5,))

    def test_numbers_are_rounded_up(self):
        for one, other, least in ((5, 5, 0), (4, 5, 1), (4, 4, 1), (4, 3, 1), (3, 3, 2), (1, 3, 2), (1, 2, 3)):
            book = Book(2, 9, ((0, 1, 0, one), (1, 2, 0, other), (0, 2, 10, 10)))
            self.assertEqual(self.check_great(book), least)

    def test_all_twelve_facts(self):
        facts = tuple([(cell, cell + 1, 0, 1) for cell in range(11)]) + ((0, 11, 48, 48),)
        self.assertEqual(self.check_great(Book(11, GREAT, facts)), 4)
        facts = facts[:11] + ((0, 11, 47, 47),)
        self.assertEqual(self.check_great(Book(11, GREAT, facts)), 3)

    def test_one_things_off_for_all(self):
        for book in small_books(83, 120):
            self.assertEqual(least_off(book) <= 1, bool(fewest_off(book)))
            self.assertEqual(least_off(book) == 0, is_possible(book))


class ShowsOffTest(unittest.TestCase):
    def test_all_short_chains(self):
        for book in (OFF, Book(2, 1, ((0, 1, 3, 3), (0, 2, 0, 0))), Book(2, 1, ((0, 1, 1, 1), (1, 2, 0, 1)))):
            shown = set()
            for size in (1, 2, 3):
                for chain in product(all_links(book), repeat=size):
                    for number in range(1, 6):
                        expected = loop_shows(book, chain, "fact", number)
                        self.assertIs(shows_off(book, number, chain), expected)
                        shown |= {number} if expected else set()
            self.assertEqual(shown, set(range(1, least_off(book) + 1)))

    def test_at_most_forty_links(self):
        book = Book(1, 0, ((0, 1, 1, 1),))
        for many, expected in ((0, False), (1, True), (39, True), (41, False)):
            self.assertIs(shows_off(book, 1, to_and_fro(many) + (("fact", 0, -1),)), expected)
        longer = Book(2, 0, ((0, 2, 1, 1),))
        loop = (("cell", 0, 1), ("cell", 1, 1), ("fact", 0, -1))
        for many, expected in ((36, True), (38, False)):
            self.assertIs(shows_off(longer, 1, to_and_fro(many) + loop), expected)

    def test_each_fact_counts(self):
        book = Book(1, 9, ((0, 1, 2, 2), (0, 1, 8, 9)))
        loop = (("fact", 0, 1), ("fact", 1, -1))
        for chain in (loop, loop + loop):
            self.assertEqual([shows_off(book, number, chain) for number in range(1, 5)], [True, True, True, False])
        single = (("cell", 0, 1), ("fact", 0, -1))
        self.assertEqual([shows_off(Book(1, 3, ((0, 1, 7, 7),)), number, single) for number in range(1, 6)],
                         [True, True, True, True, False])

    def test_a_weight_of_0_shows_nothing(self):
        self.assertIs(shows_off(Book(1, 7, ((0, 1, 7, 7),)), 1, (("cell", 0, 1), ("fact", 0, -1))), False)
        self.assertIs(shows_off(Book(1, 6, ((0, 1, 7, 7),)), 1, (("cell", 0, 1), ("fact", 0, -1))), True)

    def test_links_must_join_and_come_back(self):
        self.assertIs(shows_off(OFF, 1, CHAIN[1:] + CHAIN[:1]), True)
        self.assertIs(shows_off(OFF, 1, CHAIN[:1]), False)
        self.assertIs(shows_off(OFF, 1, CHAIN[:2]), False)
        self.assertIs(shows_off(OFF, 1, CHAIN[::-1]), False)

    def test_a_clash_shows_that_facts_are_off(self):
        seen = 0
        for book in small_books(84, 80):
            if not is_possible(book):
                seen += 1
                self.assertIs(shows_off(book, 1, clash(book)), True)
                self.assertIs(is_clash(book, off_paper(book)), True)
        self.assertGreater(seen, 20)

    def test_values_that_are_no_chain(self):
        loop = (("cell", 0, 1), ("fact", 0, -1))
        book = Book(2, 1, ((0, 1, 3, 3), (1, 2, 0, 0)))
        self.assertIs(shows_off(book, 1, loop), True)
        values = [None, True, False, 1, "", "fact", [], list(loop), {}, {0: loop}, book, (), loop[0], (loop,)]
        for link in no_links(("cell", "fact"), book) + [("row", 0, 1), ("row", 0, -1)]:
            values += [(link,), loop + (link,), (link,) + loop]
        for value in values:
            with self.subTest(value=value):
                self.assertIs(shows_off(book, 1, value), False)


class WrongTest(unittest.TestCase):
    def test_no_book(self):
        for book in NO_BOOKS:
            for ask in (least_off, off_row, off_paper):
                self.assertRaises(BadBook, ask, book)
            self.assertRaises(BadBook, shows_off, book, None, None)

    def test_no_number(self):
        for number in NO_INTEGERS + [0, -1, -GREAT]:
            for value in (CHAIN, None):
                with self.subTest(number=number):
                    self.assertRaises(BadNumber, shows_off, OFF, number, value)


if __name__ == "__main__":
    unittest.main()
