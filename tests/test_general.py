"""[1]: what holds for all functions: nothing is changed, equal calls give equal results, lists are new."""

import unittest

from stretchtold.books import Book, broken
from stretchtold.bounding import bounds, is_possible, least_row, needless, row_with, sure_cells
from stretchtold.chains import clash, fewest, is_clash, paper, shows
from stretchtold.errors import CountError

FACTS = ((0, 2, 4, 4), (1, 3, 0, 2), (0, 2, 4, 4), (3, 4, 3, 3))


def calls(book):
    row = (1, 3, 0, 0)
    chain = (("fact", 0, -1), ("cell", 0, 1), ("fact", 1, 1))
    return [(broken, (book, row)), (is_possible, (book,)), (least_row, (book,)), (bounds, (book, 0, 4)),
            (row_with, (book, 0, 1, 2)), (sure_cells, (book,)), (needless, (book,)), (paper, (book, 0, 4, "least")),
            (shows, (book, 2, 3, "greatest", 1, chain)), (clash, (book,)), (is_clash, (book, chain)),
            (fewest, (book,))]


def answer(ask, given):
    try:
        return ask(*given)
    except CountError as wrong:
        return type(wrong)


class GeneralTest(unittest.TestCase):
    def test_equal_calls_give_equal_results(self):
        for facts in (FACTS, FACTS + ((0, 4, 9, 9),)):
            book = Book(4, 3, facts)
            before = [answer(ask, given) for ask, given in calls(book)]
            self.assertEqual([answer(ask, given) for ask, given in calls(book)], before)
            self.assertEqual([answer(ask, given) for ask, given in calls(Book(4, 3, facts))], before)
            self.assertEqual((book.cells, book.most, book.facts), (4, 3, facts))

    def test_returned_lists_are_new(self):
        book = Book(4, 3, FACTS)
        for ask, given in ((broken, (book, (0, 0, 3, 0))), (sure_cells, (book,)), (needless, (book,))):
            first = ask(*given)
            kept = list(first)
            self.assertTrue(first)
            first.clear()
            self.assertEqual(ask(*given), kept)

    def test_arguments_are_not_changed(self):
        links = [("cell", 0, 1), ["cell", 0, -1]]
        table = {"cell": [0]}
        book = Book(1, 1, ())
        for value in (links, table, (links, table)):
            shows(book, 0, 1, "greatest", 1, value)
            is_clash(book, value)
            answer(broken, (book, value))
            answer(Book, (1, 1, value))
            answer(bounds, (book, value, value))
        self.assertEqual((links, table), ([("cell", 0, 1), ["cell", 0, -1]], {"cell": [0]}))

    def test_an_error_changes_nothing(self):
        book = Book(4, 3, FACTS)
        before = [answer(ask, given) for ask, given in calls(book)]
        for ask, given in ((bounds, (book, 1, 1)), (row_with, (book, 0, 1, None)), (paper, (book, 0, 1, "")),
                           (broken, (book, ())), (Book, (4, 3, FACTS + (None,)))):
            self.assertRaises(CountError, ask, *given)
        self.assertEqual([answer(ask, given) for ask, given in calls(book)], before)

    def test_kinds_of_answers(self):
        book = Book(4, 3, FACTS)
        kinds = [type(answer(ask, given)) for ask, given in calls(book)]
        self.assertEqual(kinds, [list, bool, tuple, tuple, tuple, list, list, tuple, bool, type(None), bool, type(None)])


if __name__ == "__main__":
    unittest.main()
