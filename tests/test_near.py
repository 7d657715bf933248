"""[16]: rows that are near, and loops of far links that show how far they are at least."""

import unittest
from itertools import product
from random import Random

from stretchtold.books import Book, broken
from stretchtold.chains import clash, is_clash, shows
from stretchtold.errors import BadBook, BadNumber, BadRow, NoRow
from stretchtold.near import far_paper, least_distance, near_row, shows_far
from tests.looking import (GREAT, NO_BOOKS, NO_INTEGERS, NO_ROWS, all_rows, far_links, fitting, great_books, lift,
                           lifted, loop_shows, no_links, possible_books, small_books, tiny_books, to_and_fro)

TOLD = Book(3, 9, ((0, 3, 20, 20),))
FOUR = Book(4, 3, ((0, 2, 4, 4), (1, 3, 0, 2), (0, 4, 5, 6), (3, 4, 0, 3)))
OFF = Book(4, 3, ((0, 2, 7, 9),))
CHAIN = (("fact", 0, -1), ("row", 0, 1), ("row", 1, 1), ("row", 2, 1))


def distance(one, other):
    return max(abs(number - further) for number, further in zip(one, other))


class ExampleTest(unittest.TestCase):
    def test_rows(self):
        self.assertEqual([least_distance(TOLD, (1, 2, 3)), near_row(TOLD, (1, 2, 3))], [5, (5, 7, 8)])
        self.assertIs(shows_far(TOLD, (1, 2, 3), 5, far_paper(TOLD, (1, 2, 3))), True)
        self.assertIsNone(far_paper(TOLD, (9, 9, 2)))

    def test_chain(self):
        self.assertEqual([shows_far(TOLD, (1, 2, 3), 5, CHAIN), shows_far(TOLD, (1, 2, 3), 6, CHAIN)], [True, False])


class NearTest(unittest.TestCase):
    def check_paper(self, book, row, least):
        found = far_paper(book, row)
        if least == 0:
            self.assertIsNone(found)
            return
        self.assertIs(type(found), tuple)
        self.assertTrue(1 <= len(found) <= 40)
        for number in (1, least, least + 1, least + GREAT):
            expected = loop_shows(book, found, "row", number, row)
            self.assertIs(shows_far(book, row, number, found), expected)
            self.assertIs(expected, number <= least)

    def check_row(self, book, row, rows):
        least = min(distance(row, other) for other in rows)
        self.assertEqual(least_distance(book, row), least)
        self.assertEqual(near_row(book, row), min(other for other in rows if distance(row, other) == least))
        self.check_paper(book, row, least)
        return least

    def test_all_rows_of_small_books(self):
        random, seen = Random(71), set()
        for book in small_books(71, 120) + possible_books(71, 150) + tiny_books()[::5]:
            rows = fitting(book)
            for row in random.sample(all_rows(book), min(6, len(all_rows(book)))) if rows else []:
                seen.add(self.check_row(book, row, rows))
        self.assertEqual(seen, {0, 1, 2, 3, 4})

    def test_lifted_books(self):
        random, seen = Random(72), set()
        for book in possible_books(72, 16):
            rows, above = fitting(book), lifted(book)
            row = random.choice(all_rows(book))
            least = min(distance(row, other) for other in rows)
            seen.add(least)
            self.assertEqual(least_distance(above, lift(book, row)), least)
            expected = min(other for other in rows if distance(row, other) == least)
            self.assertEqual(near_row(above, lift(book, row)), lift(book, expected))
            self.check_paper(above, lift(book, row), least)
        self.assertTrue({0, 1, 2} <= seen)

    def check_great(self, book, row):
        """What one row shows from above, and a loop from below, can be nothing else."""
        least, found = least_distance(book, row), near_row(book, row)
        self.assertEqual([broken(book, found), distance(found, row)], [[], least])
        self.check_paper(book, row, least)
        return least

    def test_great_books(self):
        random, greatest = Random(73), 0
        for book, fitting_row in great_books(73, 4):
            self.assertEqual(self.check_great(book, fitting_row), 0)
            row = tuple([random.choice([0, GREAT, random.randint(0, GREAT)]) for _ in range(20)])
            greatest = max(greatest, self.check_great(book, row))
        self.assertGreater(greatest, GREAT // 10)

    def test_a_distance_of_thirty_figures(self):
        book = Book(20, GREAT, ((0, 20, 20 * (GREAT - 1) - 7, 10 ** 32),))
        self.assertEqual(least_distance(book, (0,) * 20), GREAT - 1)
        self.assertEqual(near_row(book, (0,) * 20), (GREAT - 8,) + (GREAT - 1,) * 19)
        self.check_paper(book, (0,) * 20, GREAT - 1)
        self.assertEqual(self.check_great(Book(1, GREAT, ((0, 1, 0, 0),)), (GREAT,)), GREAT)

    def test_distances_are_rounded_up(self):
        for row, least in (((3, 3, 3), 4), ((3, 3, 4), 4), ((3, 3, 5), 3), ((2, 3, 3), 4), ((2, 2, 3), 5)):
            self.assertEqual(self.check_great(TOLD, row), least)

    def test_most_that_a_cell_takes(self):
        self.assertEqual(near_row(TOLD, (9, 0, 9)), (9, 2, 9))
        self.assertEqual(self.check_great(Book(3, 9, ((0, 3, 27, 27),)), (9, 0, 9)), 9)
        self.assertEqual(self.check_great(Book(3, 9, ((0, 3, 0, 0),)), (0, 9, 0)), 9)

    def test_edges(self):
        self.assertEqual(self.check_great(Book(1, 0, ()), (0,)), 0)
        self.assertEqual(self.check_great(Book(20, 0, ((0, 20, 0, 10 ** 32),) * 12), (0,) * 20), 0)
        self.assertEqual(self.check_great(Book(20, GREAT, ()), (GREAT,) * 20), 0)
        self.assertEqual(self.check_great(Book(1, 9, ((0, 1, 7, 8),)), (0,)), 7)
        self.assertEqual(self.check_great(Book(1, 9, ((0, 1, 7, 8),)), (9,)), 1)
        self.assertEqual(near_row(Book(20, GREAT, ()), (GREAT,) * 20), (GREAT,) * 20)

    def test_all_twelve_facts(self):
        facts = tuple([(cell, cell + 1, 5, 5) for cell in range(12)])
        self.assertEqual(self.check_great(Book(12, 9, facts), (1,) * 12), 4)
        self.assertEqual(near_row(Book(12, 9, facts), (1,) * 12), (5,) * 12)
        steps = tuple([(cell, cell + 2, 18, 18) for cell in range(0, 18)])[:12]
        self.assertEqual(self.check_great(Book(20, 18, steps), (0, 18) * 10), 0)
        self.assertEqual(self.check_great(Book(20, 18, steps), (0, 18) * 6 + (18, 0) * 4), 9)


class ShowsFarTest(unittest.TestCase):
    def test_all_short_chains(self):
        for book, row in ((Book(2, 3, ((0, 2, 5, 6), (0, 1, 0, 2))), (1, 0)), (Book(2, 3, ((0, 1, 3, 3),)), (0, 2)),
                          (Book(2, 1, ((0, 2, 3, 4), (1, 2, 0, 0))), (0, 1))):
            shown = set()
            rows = fitting(book)
            least = min([distance(row, other) for other in rows], default=None)
            for size in (1, 2, 3):
                for chain in product(far_links(book), repeat=size):
                    for number in range(1, 6):
                        expected = loop_shows(book, chain, "row", number, row)
                        self.assertIs(shows_far(book, row, number, chain), expected)
                        shown |= {number} if expected else set()
            self.assertEqual(shown, set(range(1, 6 if least is None else least + 1)))

    def test_at_most_forty_links(self):
        book, row = Book(2, 1, ((0, 2, 2, 2),)), (0, 0)
        loop = (("cell", 0, 1), ("row", 1, 1), ("fact", 0, -1))
        # To and fro by the row weighs nothing, by cells too much here.
        for many, word, expected in ((0, "row", True), (36, "row", True), (38, "row", False), (2, "cell", False)):
            self.assertIs(shows_far(book, row, 1, to_and_fro(many, word) + loop), expected)
        single = Book(1, 9, ((0, 1, 9, 9),))
        for many, expected in ((0, False), (1, True), (39, True), (41, False)):
            self.assertIs(shows_far(single, (0,), 1, to_and_fro(many, "row") + (("fact", 0, -1),)), expected)

    def test_each_link_of_the_row_counts(self):
        book, loop = Book(1, 9, ((0, 1, 9, 9),)), to_and_fro(3, "row") + (("fact", 0, -1),)
        self.assertEqual([shows_far(book, (0,), number, loop) for number in range(1, 6)],
                         [True, True, True, False, False])
        self.assertEqual([shows_far(book, (0,), number, loop[2:]) for number in (9, 10)], [True, False])

    def test_a_weight_of_0_shows_nothing(self):
        self.assertIs(shows_far(TOLD, (9, 9, 2), 1, CHAIN), False)
        self.assertIs(shows_far(TOLD, (9, 9, 1), 1, CHAIN), True)

    def test_links_must_join_and_come_back(self):
        self.assertIs(shows_far(TOLD, (1, 2, 3), 1, CHAIN[1:] + CHAIN[:1]), True)
        self.assertIs(shows_far(TOLD, (1, 2, 3), 1, CHAIN[:3]), False)
        self.assertIs(shows_far(TOLD, (1, 2, 3), 1, CHAIN[:1] + CHAIN[2:]), False)
        self.assertIs(shows_far(TOLD, (1, 2, 3), 1, CHAIN[:1] + CHAIN[1:][::-1]), False)

    def test_values_that_are_no_chain(self):
        loop = (("fact", 2, -1), ("row", 0, 1), ("row", 1, 1), ("row", 2, 1), ("row", 3, 1))
        self.assertIs(shows_far(FOUR, (0, 0, 0, 0), 1, loop), True)
        values = [None, True, False, 1, "", "row", [], list(loop), {}, {0: loop}, FOUR, (), loop[0], (loop,)]
        for link in no_links(("row", "cell", "fact"), FOUR):
            values += [(link,), loop + (link,), (link,) + loop]
        for value in values:
            with self.subTest(value=value):
                self.assertIs(shows_far(FOUR, (0, 0, 0, 0), 1, value), False)

    def test_far_links_are_for_far_papers_alone(self):
        loop = (("row", 0, 1), ("fact", 0, -1))
        book = Book(1, 9, ((0, 1, 9, 9),))
        self.assertIs(shows_far(book, (0,), 9, loop), True)
        self.assertIs(is_clash(book, loop), False)
        self.assertIs(shows(book, 0, 1, "greatest", 99, loop[:1]), False)

    def test_books_that_no_row_fits(self):
        for number in (1, 2, GREAT, 10 ** 40):
            self.assertIs(shows_far(OFF, (0, 0, 0, 0), number, clash(OFF)), True)
        loop = (("fact", 0, -1), ("row", 0, 1), ("row", 1, 1))
        self.assertEqual([shows_far(OFF, (1, 1, 0, 0), number, loop) for number in (3, 4)], [True, False])


class WrongTest(unittest.TestCase):
    def test_no_book(self):
        for book in NO_BOOKS:
            for ask in (least_distance, near_row, far_paper):
                self.assertRaises(BadBook, ask, book, None)
            self.assertRaises(BadBook, shows_far, book, None, None, None)

    def test_no_row_of_the_book(self):
        for row in NO_ROWS:
            for book in (FOUR, OFF):
                with self.subTest(row=row):
                    for ask in (least_distance, near_row, far_paper):
                        self.assertRaises(BadRow, ask, book, row)
                    self.assertRaises(BadRow, shows_far, book, row, None, None)

    def test_no_number(self):
        for number in NO_INTEGERS + [0, -1, -GREAT]:
            for value in (CHAIN, None):
                with self.subTest(number=number):
                    self.assertRaises(BadNumber, shows_far, TOLD, (1, 2, 3), number, value)
                    self.assertRaises(BadNumber, shows_far, OFF, (0, 0, 0, 0), number, value)

    def test_no_row_fits(self):
        for ask in (least_distance, near_row, far_paper):
            self.assertRaises(NoRow, ask, OFF, (0, 0, 0, 0))
            self.assertRaises(NoRow, ask, Book(1, 0, ((0, 1, 1, 1),)), (0,))


if __name__ == "__main__":
    unittest.main()
