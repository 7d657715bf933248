"""[1]: what holds for all functions: nothing is changed, equal calls give equal results, lists are new."""

import unittest

from stretchtold.ahead import fewest_ahead, mixed, most_ahead
from stretchtold.books import Book, broken
from stretchtold.bounding import bounds, is_possible, least_row, needless, row_with, sure_cells
from stretchtold.chains import clash, fewest, is_clash, paper, shows
from stretchtold.desks import Desk
from stretchtold.errors import (BadBook, BadCells, BadMost, BadNumber, BadRests, BadRing, BadRound, BadRow, BadStretch,
                                BadWord, CountError)
from stretchtold.near import (far_paper, least_distance, least_off, near_row, off_paper, off_row, shows_far,
                              shows_off)
from stretchtold.rings import Ring, ring_bounds, ring_row, ring_totals
from stretchtold.rounds import Round, round_bounds, round_totals, round_with
from stretchtold.small import fewest_off, fewest_stretches, nearest, next_stretch, rows
from stretchtold.texts import read_book, write_book
from stretchtold.two import alike, closed, first_unlike, smallest_kept, within

FACTS = ((0, 2, 4, 4), (1, 3, 0, 2), (0, 2, 4, 4), (3, 4, 3, 3))


def calls(book):
    row, rests = (1, 3, 0, 0), ((0, 1, 2),)
    ring, other = Ring(4, 3, ((3, 5, 4, 5),)), Book(4, 2, ())
    great, loop = Round(4, 3, ((3, 5, 4, 5),)), (("row", 0, 1), ("row", 1, 1), ("fact", 0, -1))
    chain = (("fact", 0, -1), ("cell", 0, 1), ("fact", 1, 1))
    return [(broken, (book, row)), (is_possible, (book,)), (least_row, (book,)), (bounds, (book, 0, 4)),
            (row_with, (book, 0, 1, 2)), (sure_cells, (book,)), (needless, (book,)), (paper, (book, 0, 4, "least")),
            (shows, (book, 2, 3, "greatest", 1, chain)), (clash, (book,)), (is_clash, (book, chain)),
            (fewest, (book,)), (ring_totals, (ring,)), (ring_bounds, (ring, 3, 6)), (ring_row, (ring,)),
            (rows, (book, rests)), (nearest, (book, rests, row)), (next_stretch, (book, rests)),
            (fewest_stretches, (book, rests)), (fewest_off, (book,)), (within, (book, other)), (alike, (book, other)),
            (first_unlike, (book, other)), (closed, (book,)), (smallest_kept, (book,)), (fewest_ahead, (book,)),
            (most_ahead, (book,)), (mixed, (book, (3, 1, 1, 3), (2, 2, 0, 3))), (least_distance, (book, row)),
            (near_row, (book, row)), (far_paper, (book, row)), (shows_far, (book, row, 1, loop)), (least_off, (book,)),
            (off_row, (book,)), (off_paper, (book,)), (shows_off, (book, 1, loop)), (round_totals, (great,)),
            (round_with, (great, 7)), (round_bounds, (great, 3, 6)), (write_book, (book,)),
            (read_book, ("cells 4 3\nfact 3 4 3 3",)), (steps_at_a_desk, (book,))]


def steps_at_a_desk(book):
    desk = Desk(book.cells, book.most)
    told = [answer(desk.tell, fact) for fact in book.facts]
    return told, desk.take(0), len(desk), desk.copy().undo(), desk.book.facts


def answer(ask, given):
    try:
        return ask(*given)
    except CountError as wrong:
        return type(wrong)


class GeneralTest(unittest.TestCase):
    def test_equal_calls_give_equal_results(self):
        for facts in (FACTS, FACTS + ((0, 4, 9, 9),)):
            book = Book(4, 3, facts)
            before = [answer(ask, given) for ask, given in calls(book)]
            self.assertEqual([answer(ask, given) for ask, given in calls(book)], before)
            self.assertEqual([answer(ask, given) for ask, given in calls(Book(4, 3, facts))], before)
            self.assertEqual((book.cells, book.most, book.facts), (4, 3, facts))

    def test_returned_lists_are_new(self):
        book = Book(4, 3, FACTS)
        for ask, given in ((broken, (book, (0, 0, 3, 0))), (sure_cells, (book,)), (needless, (book,)),
                           (ring_totals, (Ring(2, 1, ()),)), (rows, (book, ())), (fewest_off, (book,)),
                           (closed, (book,)), (smallest_kept, (book,))):
            first = ask(*given)
            kept = list(first)
            self.assertTrue(first)
            first.clear()
            self.assertEqual(ask(*given), kept)
        found = nearest(book, (), (0, 0, 0, 0))[1]
        kept = list(found)
        found.clear()
        self.assertEqual(nearest(book, (), (0, 0, 0, 0))[1], kept)

    def test_arguments_are_not_changed(self):
        links = [("cell", 0, 1), ["cell", 0, -1]]
        table = {"cell": [0]}
        book = Book(1, 1, ())
        for value in (links, table, (links, table)):
            shows(book, 0, 1, "greatest", 1, value)
            is_clash(book, value)
            answer(broken, (book, value))
            answer(Book, (1, 1, value))
            answer(bounds, (book, value, value))
            answer(Ring, (1, 1, value))
            answer(ring_bounds, (Ring(1, 1, ()), value, value))
            answer(rows, (book, value))
            answer(nearest, (book, (), value))
            answer(mixed, (book, (0,), value))
            shows_far(book, (0,), 1, value)
            shows_off(book, 1, value)
            answer(near_row, (book, value))
            answer(shows_far, (book, (0,), value, value))
            answer(Round, (1, 1, value))
            answer(round_with, (Round(1, 1, ()), value))
            answer(round_bounds, (Round(1, 1, ()), value, value))
            answer(Desk, (1, value))
            answer(Desk(1, 1).tell, (0, 1, value, value))
            answer(Desk(1, 1).take, (value,))
            answer(write_book, (value,))
        self.assertEqual((links, table), ([("cell", 0, 1), ["cell", 0, -1]], {"cell": [0]}))

    def test_an_error_changes_nothing(self):
        book = Book(4, 3, FACTS)
        before = [answer(ask, given) for ask, given in calls(book)]
        for ask, given in ((bounds, (book, 1, 1)), (row_with, (book, 0, 1, None)), (paper, (book, 0, 1, "")),
                           (broken, (book, ())), (Book, (4, 3, FACTS + (None,))), (Ring, (4, 3, FACTS + (None,))),
                           (ring_bounds, (Ring(4, 3, FACTS), 3, 8)), (rows, (book, (None,))), (nearest, (book, (), ())),
                           (next_stretch, (Book(7, 0, ()), ())), (within, (book, Book(3, 3, ()))),
                           (mixed, (book, (0, 0, 0, 0), ())), (near_row, (book, ())), (shows_far, (book, (), 1, ())),
                           (shows_off, (book, 0, ())), (Round, (4, 3, FACTS + (None,))),
                           (round_bounds, (Round(4, 3, FACTS), 3, 8)), (round_with, (Round(4, 3, FACTS), None)),
                           (Desk, (4, -1)), (read_book, ("cells 4",))):
            self.assertRaises(CountError, ask, *given)
        self.assertEqual([answer(ask, given) for ask, given in calls(book)], before)

    def test_kinds_of_answers(self):
        book = Book(4, 3, FACTS)
        kinds = [type(answer(ask, given)) for ask, given in calls(book)]
        self.assertEqual(kinds, [list, bool, tuple, tuple, tuple, list, list, tuple, bool, type(None), bool, type(None),
                                 list, tuple, tuple, list, tuple, tuple, tuple, list, bool, bool, tuple, list, list,
                                 tuple, tuple, tuple, int, tuple, tuple, bool, int, tuple, type(None), bool, tuple,
                                 tuple, tuple, str, Book, tuple])

    def test_the_first_wrong_argument_counts(self):
        book, great = Book(4, 3, FACTS), Round(4, 3, FACTS)
        row = (1, 3, 0, 0)
        wrong = [(BadBook, shows_far, (great, (), 0, None)), (BadRow, shows_far, (book, (), 0, None)),
                 (BadNumber, shows_far, (book, row, 0, None)), (BadBook, shows_off, (great, 0, None)),
                 (BadBook, near_row, (great, ())), (BadRound, round_bounds, (book, 3, 3)),
                 (BadRound, round_with, (book, True)), (BadCells, Desk, (0, -1)), (BadCells, Round, (0, -1, None)),
                 (BadMost, Round, (1, -1, None)), (BadBook, mixed, (great, (), ())), (BadBook, within, (great, None)),
                 (BadBook, within, (book, great)), (BadBook, row_with, (great, 1, 1, None)),
                 (BadStretch, row_with, (book, 1, 1, None)), (BadWord, shows, (book, 0, 1, "", None, None)),
                 (BadRests, nearest, (book, None, None)), (BadRow, nearest, (Book(7, 9, ()), (), None)),
                 (BadRing, ring_bounds, (great, 3, 3))]
        for kind, ask, given in wrong:
            with self.subTest(ask=ask):
                self.assertRaises(kind, ask, *given)


if __name__ == "__main__":
    unittest.main()
