"""[1]: what holds for all functions: nothing is changed, equal calls give equal results, lists are new."""

import unittest

from stretchtold.ahead import fewest_ahead, mixed, most_ahead
from stretchtold.books import Book, broken
from stretchtold.bounding import bounds, is_possible, least_row, needless, row_with, sure_cells
from stretchtold.chains import clash, fewest, is_clash, paper, shows
from stretchtold.errors import CountError
from stretchtold.rings import Ring, ring_bounds, ring_row, ring_totals
from stretchtold.small import fewest_off, fewest_stretches, nearest, next_stretch, rows
from stretchtold.two import alike, closed, first_unlike, smallest_kept, within

FACTS = ((0, 2, 4, 4), (1, 3, 0, 2), (0, 2, 4, 4), (3, 4, 3, 3))


def calls(book):
    row, rests = (1, 3, 0, 0), ((0, 1, 2),)
    ring, other = Ring(4, 3, ((3, 5, 4, 5),)), Book(4, 2, ())
    chain = (("fact", 0, -1), ("cell", 0, 1), ("fact", 1, 1))
    return [(broken, (book, row)), (is_possible, (book,)), (least_row, (book,)), (bounds, (book, 0, 4)),
            (row_with, (book, 0, 1, 2)), (sure_cells, (book,)), (needless, (book,)), (paper, (book, 0, 4, "least")),
            (shows, (book, 2, 3, "greatest", 1, chain)), (clash, (book,)), (is_clash, (book, chain)),
            (fewest, (book,)), (ring_totals, (ring,)), (ring_bounds, (ring, 3, 6)), (ring_row, (ring,)),
            (rows, (book, rests)), (nearest, (book, rests, row)), (next_stretch, (book, rests)),
            (fewest_stretches, (book, rests)), (fewest_off, (book,)), (within, (book, other)), (alike, (book, other)),
            (first_unlike, (book, other)), (closed, (book,)), (smallest_kept, (book,)), (fewest_ahead, (book,)),
            (most_ahead, (book,)), (mixed, (book, (3, 1, 1, 3), (2, 2, 0, 3)))]


def answer(ask, given):
    try:
        return ask(*given)
    except CountError as wrong:
        return type(wrong)


class GeneralTest(unittest.TestCase):
    def test_equal_calls_give_equal_results(self):
        for facts in (FACTS, FACTS + ((0, 4, 9, 9),)):
            book = Book(4, 3, facts)
            before = [answer(ask, given) for ask, given in calls(book)]
            self.assertEqual([answer(ask, given) for ask, given in calls(book)], before)
            self.assertEqual([answer(ask, given) for ask, given in calls(Book(4, 3, facts))], before)
            self.assertEqual((book.cells, book.most, book.facts), (4, 3, facts))

    def test_returned_lists_are_new(self):
        book = Book(4, 3, FACTS)
        for ask, given in ((broken, (book, (0, 0, 3, 0))), (sure_cells, (book,)), (needless, (book,)),
                           (ring_totals, (Ring(2, 1, ()),)), (rows, (book, ())), (fewest_off, (book,)),
                           (closed, (book,)), (smallest_kept, (book,))):
            first = ask(*given)
            kept = list(first)
            self.assertTrue(first)
            first.clear()
            self.assertEqual(ask(*given), kept)
        found = nearest(book, (), (0, 0, 0, 0))[1]
        kept = list(found)
        found.clear()
        self.assertEqual(nearest(book, (), (0, 0, 0, 0))[1], kept)

    def test_arguments_are_not_changed(self):
        links = [("cell", 0, 1), ["cell", 0, -1]]
        table = {"cell": [0]}
        book = Book(1, 1, ())
        for value in (links, table, (links, table)):
            shows(book, 0, 1, "greatest", 1, value)
            is_clash(book, value)
            answer(broken, (book, value))
            answer(Book, (1, 1, value))
            answer(bounds, (book, value, value))
            answer(Ring, (1, 1, value))
            answer(ring_bounds, (Ring(1, 1, ()), value, value))
            answer(rows, (book, value))
            answer(nearest, (book, (), value))
            answer(mixed, (book, (0,), value))
        self.assertEqual((links, table), ([("cell", 0, 1), ["cell", 0, -1]], {"cell": [0]}))

    def test_an_error_changes_nothing(self):
        book = Book(4, 3, FACTS)
        before = [answer(ask, given) for ask, given in calls(book)]
        for ask, given in ((bounds, (book, 1, 1)), (row_with, (book, 0, 1, None)), (paper, (book, 0, 1, "")),
                           (broken, (book, ())), (Book, (4, 3, FACTS + (None,))), (Ring, (4, 3, FACTS + (None,))),
                           (ring_bounds, (Ring(4, 3, FACTS), 3, 8)), (rows, (book, (None,))), (nearest, (book, (), ())),
                           (next_stretch, (Book(7, 0, ()), ())), (within, (book, Book(3, 3, ()))),
                           (mixed, (book, (0, 0, 0, 0), ()))):
            self.assertRaises(CountError, ask, *given)
        self.assertEqual([answer(ask, given) for ask, given in calls(book)], before)

    def test_kinds_of_answers(self):
        book = Book(4, 3, FACTS)
        kinds = [type(answer(ask, given)) for ask, given in calls(book)]
        self.assertEqual(kinds, [list, bool, tuple, tuple, tuple, list, list, tuple, bool, type(None), bool, type(None),
                                 list, tuple, tuple, list, tuple, tuple, tuple, list, bool, bool, tuple, list, list,
                                 tuple, tuple, tuple])


if __name__ == "__main__":
    unittest.main()
