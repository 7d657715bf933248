"""[5] and [6]: chains that show bounds, and clashes."""

import unittest
from itertools import product

from stretchtold.books import Book
from stretchtold.bounding import bounds
from stretchtold.chains import clash, fewest, is_clash, paper, shows
from stretchtold.errors import BadBook, BadNumber, BadStretch, BadWord, NoRow
from tests.looking import (GREAT, NO_BOOKS, NO_INTEGERS, NO_STRETCHES, all_links, chain_walk, facts_in, fewest_facts,
                           fitting, great_books, numbers_in, small_books, stretches, tiny_books, to_and_fro)

TOLD = Book(4, 3, ((0, 2, 4, 4), (1, 3, 0, 2)))
OFF = Book(2, 3, ((0, 2, 7, 9), (0, 1, 0, 2)))
CHAIN = (("fact", 0, -1), ("cell", 0, 1), ("fact", 1, 1))
NO_WORDS = NO_INTEGERS + ["Greatest", "least ", "most", ("greatest",), ["least"]]

# What is no link of TOLD: other lengths, words, indexes and ways.
NO_LINKS = NO_INTEGERS + ["fact", ("fact", 0), ("fact", 0, 1, 1), ["fact", 0, 1], ("row", 0, 1), ("", 0, 1),
                          ("fact", 2, 1), ("fact", -1, 1), ("cell", 4, 1), ("cell", -1, 1),
                          ("fact", 0, 0), ("fact", 0, 2), ("cell", 0, -2)]
NO_LINKS += [(value, 0, 1) for value in NO_INTEGERS]
NO_LINKS += [("fact", value, 1) for value in NO_INTEGERS] + [("cell", value, 1) for value in NO_INTEGERS]
NO_LINKS += [("fact", 0, value) for value in NO_INTEGERS] + [("cell", 0, value) for value in NO_INTEGERS]


def short_chains(book):
    """All tuples of one to three links, torn ones among them."""
    return [chain for size in (1, 2, 3) for chain in product(all_links(book), repeat=size)]


class ExampleTest(unittest.TestCase):
    def test_chains(self):
        self.assertIs(shows(TOLD, 2, 3, "greatest", 1, CHAIN), True)
        self.assertIs(shows(TOLD, 2, 3, "greatest", 0, CHAIN), False)
        self.assertIs(shows(TOLD, 0, 4, "greatest", 8, paper(TOLD, 0, 4, "greatest")), True)

    def test_clashes(self):
        self.assertEqual(fewest(OFF), 1)
        self.assertIs(is_clash(OFF, clash(OFF)), True)
        self.assertIs(is_clash(OFF, (("fact", 0, -1), ("cell", 0, 1), ("cell", 1, 1))), True)
        self.assertIsNone(clash(TOLD))


class PaperTest(unittest.TestCase):
    def check_paper(self, book, begin, end, least, greatest):
        up = paper(book, begin, end, "greatest")
        down = paper(book, begin, end, "least")
        self.assertTrue(1 <= len(up) <= 40 and 1 <= len(down) <= 40)
        self.assertEqual([type(up), type(down)], [tuple, tuple])
        self.assertEqual(chain_walk(book, up), (begin, end, greatest))
        self.assertEqual(chain_walk(book, down), (end, begin, -least))
        for number in (-1, 0, 1):
            self.assertIs(shows(book, begin, end, "greatest", greatest + number, up), number >= 0)
            self.assertIs(shows(book, begin, end, "least", least + number, down), number <= 0)

    def test_all_rows_of_small_books(self):
        for book in small_books(5, 250) + tiny_books():
            rows = fitting(book)
            for begin, end in stretches(book) if rows else []:
                numbers = numbers_in(rows, begin, end)
                self.check_paper(book, begin, end, min(numbers), max(numbers))

    def test_great_books(self):
        for book, _ in great_books(6, 4):
            for begin, end in stretches(book):
                least, greatest = bounds(book, begin, end)
                self.check_paper(book, begin, end, least, greatest)

    def test_edges(self):
        self.check_paper(Book(1, 0, ()), 0, 1, 0, 0)
        self.check_paper(Book(20, GREAT, ()), 0, 20, 0, 20 * GREAT)
        self.check_paper(Book(20, 0, ((0, 20, 0, 10 ** 32),) * 12), 0, 20, 0, 0)
        self.check_paper(Book(1, 5, ((0, 1, 2, 2), (0, 1, 2, 2))), 0, 1, 2, 2)

    def test_all_facts_in_one_chain(self):
        steps = tuple([(cell, cell + 1, 5, 5) for cell in range(12)])
        self.check_paper(Book(12, 9, steps), 0, 12, 60, 60)
        self.assertEqual(facts_in(paper(Book(12, 9, steps), 0, 12, "greatest")), 12)

    def test_links_that_weigh_nothing(self):
        self.check_paper(Book(20, 0, tuple([(cell, cell + 1, 0, 0) for cell in range(12)])), 0, 20, 0, 0)

    def test_no_row(self):
        for word in ("greatest", "least"):
            self.assertRaises(NoRow, paper, OFF, 0, 1, word)


class ShowsTest(unittest.TestCase):
    def test_all_short_chains(self):
        for book in (Book(2, 2, ((0, 2, 3, 3), (0, 1, 0, 2))), Book(2, 1, ((0, 2, 3, 4), (1, 2, 0, 0)))):
            rows = fitting(book)
            for chain in short_chains(book):
                walked = chain_walk(book, chain)
                for begin, end in stretches(book):
                    self.check_all_numbers(book, begin, end, chain, walked, rows)

    def check_all_numbers(self, book, begin, end, chain, walked, rows):
        start, goal, weight = walked or (None, None, 0)
        for number in range(-5, 8):
            most = (start, goal) == (begin, end) and weight <= number
            least = (start, goal) == (end, begin) and weight <= -number
            self.assertIs(shows(book, begin, end, "greatest", number, chain), most)
            self.assertIs(shows(book, begin, end, "least", number, chain), least)
            there = numbers_in(rows, begin, end)
            self.assertTrue(not most or max(there, default=number) <= number)
            self.assertTrue(not least or min(there, default=number) >= number)

    def test_places_must_be_these(self):
        self.assertIs(shows(TOLD, 2, 4, "greatest", 9, CHAIN), False)
        self.assertIs(shows(TOLD, 1, 3, "greatest", 9, CHAIN), False)
        self.assertIs(shows(TOLD, 2, 3, "least", -9, CHAIN), False)
        self.assertIs(shows(TOLD, 2, 3, "least", -9, (("cell", 2, -1),)), True)

    def test_links_must_join(self):
        self.assertIs(shows(TOLD, 0, 4, "greatest", 99, (("cell", 0, 1), ("cell", 3, 1))), False)
        self.assertIs(shows(TOLD, 0, 4, "greatest", 12, tuple([("cell", k, 1) for k in range(4)])), True)

    def test_at_most_forty_links(self):
        book = Book(1, 0, ())
        self.assertIs(shows(book, 0, 1, "greatest", 0, to_and_fro(39)), True)
        self.assertIs(shows(book, 0, 1, "greatest", 0, to_and_fro(41)), False)
        self.assertIs(is_clash(Book(1, 0, ((0, 1, 1, 1),)), to_and_fro(38) + (("cell", 0, 1), ("fact", 0, -1))), True)
        self.assertIs(is_clash(Book(1, 0, ((0, 1, 1, 1),)), to_and_fro(40) + (("cell", 0, 1), ("fact", 0, -1))), False)

    def test_values_that_are_no_chain(self):
        values = [None, True, 1, "", "cell", [], list(CHAIN), {}, TOLD, (), CHAIN[0]]
        for link in NO_LINKS:
            values += [(link,), CHAIN + (link,), (link,) + CHAIN]
        for value in values:
            self.assert_no_chain(value)

    def test_links_beyond_the_ends(self):
        self.assert_no_chain((("cell", 3, 1), ("cell", 4, 1), ("cell", 4, -1)))
        self.assert_no_chain((("cell", 0, -1), ("cell", -1, -1), ("cell", -1, 1)))

    def assert_no_chain(self, value):
        with self.subTest(value=value):
            for begin, end in stretches(TOLD):
                self.assertIs(shows(TOLD, begin, end, "greatest", 40 * GREAT, value), False)
                self.assertIs(shows(TOLD, begin, end, "least", -40 * GREAT, value), False)
            self.assertIs(is_clash(TOLD, value), False)
            self.assertIs(is_clash(OFF, value), False)

    def test_true_is_no_way_and_no_index(self):
        self.assertIs(shows(TOLD, 0, 1, "greatest", 3, (("cell", 0, 1),)), True)
        self.assertIs(shows(TOLD, 0, 1, "greatest", 3, (("cell", False, 1),)), False)
        self.assertIs(shows(TOLD, 0, 1, "greatest", 3, (("cell", 0, True),)), False)

    def test_books_that_no_row_fits(self):
        self.assertIs(shows(OFF, 0, 2, "least", 7, (("fact", 0, -1),)), True)
        self.assertIs(shows(OFF, 0, 2, "least", 8, (("fact", 0, -1),)), False)


class ClashTest(unittest.TestCase):
    def check_clash(self, book, many):
        found = clash(book)
        self.assertEqual(fewest(book), many)
        if many is None:
            self.assertIsNone(found)
            return
        start, goal, weight = chain_walk(book, found)
        self.assertEqual([type(found), start, facts_in(found)], [tuple, goal, many])
        self.assertTrue(1 <= len(found) <= 40 and weight < 0)
        self.assertIs(is_clash(book, found), True)

    def test_all_rows_and_all_lots_of_facts(self):
        kinds = set()
        for book in small_books(7, 600) + tiny_books():
            many = fewest_facts(book)
            kinds.add(many)
            self.check_clash(book, many)
        self.assertEqual(kinds, {None, 1, 2, 3})

    def test_all_short_chains(self):
        for book in (OFF, Book(2, 1, ((0, 1, 1, 1), (0, 1, 0, 0))), Book(2, 1, ((0, 1, 1, 1), (1, 2, 0, 1)))):
            clashes = []
            for chain in short_chains(book):
                start, goal, weight = chain_walk(book, chain) or (0, 1, 0)
                self.assertIs(is_clash(book, chain), start == goal and weight < 0)
                clashes += [chain] if is_clash(book, chain) else []
            self.assertEqual(bool(clashes), not fitting(book))

    def test_a_weight_of_0_is_no_clash(self):
        book = Book(1, 2, ((0, 1, 2, 2),))
        self.assertIs(is_clash(book, (("fact", 0, -1), ("cell", 0, 1))), False)
        self.assertIs(is_clash(Book(1, 1, ((0, 1, 2, 2),)), (("fact", 0, -1), ("cell", 0, 1))), True)

    def test_a_clash_comes_back(self):
        self.assertIs(is_clash(OFF, (("fact", 0, -1),)), False)

    def test_edges(self):
        self.check_clash(Book(1, 0, ()), None)
        self.check_clash(Book(1, 0, ((0, 1, 1, 1),)), 1)
        self.check_clash(Book(1, 9, ((0, 1, 1, 1), (0, 1, 1, 1), (0, 1, 2, 2))), 2)
        self.check_clash(Book(20, GREAT, ()), None)
        self.check_clash(Book(20, GREAT, ((0, 20, 20 * GREAT + 1, 10 ** 32),) * 12), 1)
        self.check_clash(Book(20, 0, ((19, 20, 1, 1),)), 1)

    def test_all_twelve_facts(self):
        parts = tuple([(cell, cell + 1, 0, GREAT // 2) for cell in range(11)])
        whole = 11 * (GREAT // 2) + 9 * GREAT
        self.check_clash(Book(20, GREAT, parts + ((0, 20, whole, 10 ** 32),)), None)
        self.check_clash(Book(20, GREAT, parts + ((0, 20, whole + 1, 10 ** 32),)), 12)
        self.check_clash(Book(20, GREAT, parts[:10] + ((0, 20, whole + 1, 10 ** 32), (19, 20, 0, GREAT - 1))), None)

    def test_great_books(self):
        for book, row in great_books(8, 4):
            self.check_clash(book, None)
            begin, end = book.facts[0][:2]
            there = sum(row[begin:end])
            if there:
                twice = ((begin, end, there, there), (begin, end, 0, there - 1)) + book.facts[2:]
                self.check_clash(Book(20, GREAT, twice), 2)


class WrongTest(unittest.TestCase):
    def test_no_book(self):
        for book in NO_BOOKS:
            self.assertRaises(BadBook, paper, book, None, None, None)
            self.assertRaises(BadBook, shows, book, None, None, None, None, None)
            self.assertRaises(BadBook, is_clash, book, None)
            self.assertRaises(BadBook, clash, book)
            self.assertRaises(BadBook, fewest, book)

    def test_no_stretch(self):
        for begin, end in NO_STRETCHES:
            with self.subTest(begin=begin, end=end):
                self.assertRaises(BadStretch, paper, TOLD, begin, end, None)
                self.assertRaises(BadStretch, shows, TOLD, begin, end, None, None, None)

    def test_no_word(self):
        for word in NO_WORDS:
            with self.subTest(word=word):
                self.assertRaises(BadWord, paper, TOLD, 0, 4, word)
                self.assertRaises(BadWord, shows, TOLD, 0, 4, word, None, None)

    def test_no_number(self):
        for number in NO_INTEGERS:
            with self.subTest(number=number):
                self.assertRaises(BadNumber, shows, TOLD, 0, 4, "least", number, None)

    def test_no_row_comes_last(self):
        self.assertRaises(BadStretch, paper, OFF, 1, 1, None)
        self.assertRaises(BadWord, paper, OFF, 0, 1, None)
        self.assertRaises(NoRow, paper, OFF, 0, 1, "least")


if __name__ == "__main__":
    unittest.main()
