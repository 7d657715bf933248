"""[11]: a desk, at which facts are told and taken out, and steps taken back."""

import unittest
from random import Random

from stretchtold.books import Book
from stretchtold.bounding import bounds, is_possible
from stretchtold.desks import Desk
from stretchtold.errors import BadCells, BadFacts, BadIndex, BadMost, CountError, Full, NoRow
from stretchtold.rings import Ring
from stretchtold.rounds import Round
from tests.looking import GREAT, NO_INTEGERS, NO_STRETCHES, fitting, numbers_in, random_fact

FACTS = ((0, 2, 4, 4), (1, 3, 0, 2), (0, 4, 5, 8))


def desk_with(cells, most, facts):
    desk = Desk(cells, most)
    for fact in facts:
        desk.tell(*fact)
    return desk


def outcome(step, *given):
    """What a step returns, or the kind and the fields of the error that it raises."""
    try:
        return step(*given)
    except CountError as wrong:
        return type(wrong), vars(wrong)


def all_undone(desk):
    """The books at which a desk stands while all steps are taken back."""
    books = [desk.book]
    while desk.undo():
        books.append(desk.book)
    return books


class ExampleTest(unittest.TestCase):
    def test_example(self):
        desk = Desk(3, 2)
        self.assertEqual([desk.tell(0, 3, 5, 9), desk.tell(0, 2, 0, 3), desk.book.facts, desk.take(0), desk.undo(),
                          len(desk)],
                         [(5, 6), (3, 3), ((0, 3, 5, 9), (0, 2, 0, 3)), (0, 3, 5, 9), True, 2])
        self.assertRaises(NoRow, desk.tell, 2, 3, 0, 1)


class NewDeskTest(unittest.TestCase):
    def test_no_facts(self):
        for cells, most in ((1, 0), (20, GREAT), (1, GREAT), (20, 0)):
            desk = Desk(cells, most)
            self.assertEqual([len(desk), desk.book], [0, Book(cells, most, ())])
            self.assertIsInstance(desk.book, Book)

    def test_wrong_cells(self):
        for cells in NO_INTEGERS + [0, -1, 21, GREAT]:
            with self.subTest(cells=cells):
                self.assertRaises(BadCells, Desk, cells, None)

    def test_wrong_most(self):
        for most in NO_INTEGERS + [-1, GREAT + 1]:
            with self.subTest(most=most):
                self.assertRaises(BadMost, Desk, 20, most)

    def test_the_book_cannot_be_set(self):
        with self.assertRaises(AttributeError):
            Desk(1, 1).book = Book(1, 1, ())

    def test_equal_to_nothing_of_another_kind(self):
        for other in NO_INTEGERS + [1, Book(4, 3, ()), Ring(4, 3, ()), Round(4, 3, ())]:
            if not isinstance(other, Desk):
                self.assertFalse(Desk(4, 3) == other)
                self.assertFalse(other == Desk(4, 3))


class TellTest(unittest.TestCase):
    def test_the_bounds_then(self):
        random, kinds = Random(101), set()
        for _ in range(150):
            cells, most = random.randint(1, 4), random.randint(0, 3)
            desk, facts = Desk(cells, most), ()
            for _ in range(5):
                fact = random_fact(random, cells, cells * most + 1)
                rows = fitting(Book(cells, most, facts + (fact,)))
                kinds.add(bool(rows))
                if rows:
                    numbers = numbers_in(rows, *fact[:2])
                    self.assertEqual(desk.tell(*fact), (min(numbers), max(numbers)))
                    facts += (fact,)
                else:
                    self.assertRaises(NoRow, desk.tell, *fact)
                self.assertEqual([desk.book, len(desk)], [Book(cells, most, facts), len(facts)])
        self.assertEqual(kinds, {True, False})

    def test_great_numbers(self):
        desk = Desk(20, GREAT)
        self.assertEqual(desk.tell(0, 20, 0, 10 ** 32), (0, 20 * GREAT))
        self.assertEqual(desk.tell(0, 20, 19 * GREAT + 5, 10 ** 32), (19 * GREAT + 5, 20 * GREAT))
        self.assertEqual(desk.tell(19, 20, 0, 7), (5, 7))
        self.assertRaises(NoRow, desk.tell, 0, 1, 0, GREAT - 3)
        self.assertEqual(desk.tell(0, 1, 0, GREAT - 2), (GREAT - 2, GREAT - 2))

    def test_the_same_fact_again(self):
        desk = Desk(1, 9)
        self.assertEqual([desk.tell(0, 1, 3, 3), desk.tell(0, 1, 3, 3), len(desk)], [(3, 3), (3, 3), 2])

    def test_no_fact(self):
        desk = desk_with(4, 3, FACTS)
        wrong = [(begin, end, 0, 3) for begin, end in NO_STRETCHES]
        wrong += [(0, 1, low, 3) for low in NO_INTEGERS + [-1, 4, 10 ** 32 + 1]]
        wrong += [(0, 1, 0, high) for high in NO_INTEGERS + [-1, 10 ** 32 + 1]]
        wrong += [(0, 1, 3, 2), (None, None, None, None), ((0, 1, 0, 1), 1, 0, 1)]
        for given in wrong:
            with self.subTest(given=given):
                self.assertEqual(outcome(desk.tell, *given), (BadFacts, {"index": None}))
        self.assertEqual(all_undone(desk), [Book(4, 3, FACTS[:many]) for many in (3, 2, 1, 0)])

    def test_a_full_desk(self):
        facts = tuple([(0, 4, 0, 12 - many) for many in range(12)])
        desk = desk_with(4, 3, facts)
        self.assertEqual([len(desk), desk.book.facts], [12, facts])
        self.assertRaises(Full, desk.tell, 0, 1, 0, 1)
        self.assertEqual([len(desk), desk.book.facts], [12, facts])
        self.assertEqual(desk.take(4), facts[4])
        self.assertEqual(desk.tell(0, 1, 0, 1), (0, 1))
        self.assertEqual(desk.book.facts, facts[:4] + facts[5:] + ((0, 1, 0, 1),))
        self.assertRaises(Full, desk.tell, 0, 1, 0, 1)

    def test_which_error_comes_first(self):
        desk = desk_with(4, 3, ((0, 4, 0, 12),) * 12)
        self.assertEqual(outcome(desk.tell, 0, 1, 5, 4), (BadFacts, {"index": None}))
        self.assertEqual(outcome(desk.tell, True, 1, 0, 1), (BadFacts, {"index": None}))
        self.assertRaises(Full, desk.tell, 0, 1, 4, 5)
        desk.take(0)
        self.assertRaises(NoRow, desk.tell, 0, 1, 4, 5)

    def test_an_error_is_no_step(self):
        desk = desk_with(4, 3, FACTS)
        for given in ((0, 0, 0, 0), (2, 3, 3, 3), (0, 1, 0, 0)):
            self.assertRaises(CountError, desk.tell, *given)
        for index in (3, -1, None):
            self.assertRaises(BadIndex, desk.take, index)
        self.assertEqual(all_undone(desk), [Book(4, 3, FACTS[:many]) for many in (3, 2, 1, 0)])


class TakeTest(unittest.TestCase):
    def test_each_index(self):
        for index in range(3):
            desk = desk_with(4, 3, FACTS)
            self.assertEqual(desk.take(index), FACTS[index])
            self.assertEqual([desk.book, len(desk)], [Book(4, 3, FACTS[:index] + FACTS[index + 1:]), 2])

    def test_all_facts(self):
        desk = desk_with(4, 3, FACTS)
        self.assertEqual([desk.take(2), desk.take(0), desk.take(0)], [FACTS[2], FACTS[0], FACTS[1]])
        self.assertEqual([len(desk), desk.book], [0, Book(4, 3, ())])
        self.assertRaises(BadIndex, desk.take, 0)

    def test_no_index(self):
        desk = desk_with(4, 3, FACTS)
        for index in NO_INTEGERS + [-1, -3, 3, 12, GREAT, -GREAT]:
            with self.subTest(index=index):
                self.assertRaises(BadIndex, desk.take, index)
                self.assertRaises(BadIndex, Desk(1, 1).take, index)
        self.assertEqual(desk.book.facts, FACTS)


class UndoTest(unittest.TestCase):
    def test_where_there_was_no_step(self):
        desk = Desk(2, 2)
        self.assertIs(desk.undo(), False)
        desk.tell(0, 1, 1, 1)
        self.assertIs(desk.undo(), True)
        self.assertIs(desk.undo(), False)
        self.assertEqual([desk.book, desk.undo()], [Book(2, 2, ()), False])

    def test_both_kinds_of_steps(self):
        desk = desk_with(4, 3, FACTS)
        desk.take(1)
        desk.tell(3, 4, 1, 1)
        desk.take(0)
        expected = [((0, 4, 5, 8), (3, 4, 1, 1)), (FACTS[0], FACTS[2], (3, 4, 1, 1)), (FACTS[0], FACTS[2]), FACTS,
                    FACTS[:2], FACTS[:1], ()]
        self.assertEqual([book.facts for book in all_undone(desk)], expected)

    def test_a_step_behind_one_that_was_taken_back(self):
        desk = desk_with(4, 3, FACTS)
        desk.undo()
        desk.tell(3, 4, 1, 1)
        self.assertEqual([book.facts for book in all_undone(desk)],
                         [FACTS[:2] + ((3, 4, 1, 1),), FACTS[:2], FACTS[:1], ()])

    def test_many_steps(self):
        desk = Desk(2, 2)
        for _ in range(300):
            desk.tell(0, 2, 1, 2)
            desk.take(0)
        self.assertEqual([len(book) for book in all_undone(desk)], [0, 1] * 300 + [0])

    def test_books_that_were_read_stay(self):
        desk = desk_with(4, 3, FACTS[:1])
        before = desk.book
        desk.tell(*FACTS[1])
        desk.take(0)
        self.assertEqual([before.facts, len(before)], [FACTS[:1], 1])
        desk.undo()
        self.assertEqual(desk.book.facts, FACTS[:2])


class CopyTest(unittest.TestCase):
    def test_it_stands_as_this_one(self):
        desk = desk_with(4, 3, FACTS)
        desk.take(0)
        other = desk.copy()
        self.assertIs(type(other), Desk)
        self.assertEqual([other.book, len(other)], [desk.book, len(desk)])
        self.assertEqual(all_undone(other), all_undone(desk))

    def test_it_is_independent(self):
        desk = desk_with(4, 3, FACTS[:2])
        other = desk.copy()
        desk.tell(*FACTS[2])
        self.assertEqual([desk.book.facts, other.book.facts], [FACTS, FACTS[:2]])
        other.take(0)
        other.undo()
        other.undo()
        self.assertEqual([desk.book.facts, other.book.facts], [FACTS, FACTS[:1]])
        self.assertEqual([len(all_undone(other)), len(all_undone(desk))], [2, 4])

    def test_of_a_new_desk_and_of_a_copy(self):
        desk = Desk(20, GREAT)
        other = desk.copy().copy()
        self.assertEqual([other.undo(), other.book], [False, Book(20, GREAT, ())])
        other.tell(0, 1, 1, 1)
        self.assertEqual([len(desk), len(other), desk.undo(), other.undo()], [0, 1, False, True])


class ManyStepsTest(unittest.TestCase):
    """Desks beside plain lists of tuples of facts, the last one being where the desk stands."""

    def step(self, random, desk, states, cells, most):
        facts, kind = states[-1], random.random()
        if kind < 0.5:
            fact = random_fact(random, cells, cells * most)
            told = Book(cells, most, (facts + (fact,))[:12])
            if len(facts) == 12:
                self.assertEqual(outcome(desk.tell, *fact), (Full, {}))
            elif not is_possible(told):
                self.assertEqual(outcome(desk.tell, *fact), (NoRow, {}))
            else:
                self.assertEqual(desk.tell(*fact), bounds(told, *fact[:2]))
                states.append(facts + (fact,))
        elif kind < 0.65:
            index = random.randint(-1, len(facts))
            if index in range(len(facts)):
                self.assertEqual(desk.take(index), facts[index])
                states.append(facts[:index] + facts[index + 1:])
            else:
                self.assertEqual(outcome(desk.take, index), (BadIndex, {}))
        elif kind < 0.8:
            self.assertIs(desk.undo(), len(states) > 1)
            del states[max(1, len(states) - 1):]

    def test_many_steps(self):
        random, fullest = Random(102), 0
        for _ in range(12):
            cells, most = random.randint(2, 6), random.randint(1, 9)
            desks = [(Desk(cells, most), [()])]
            for _ in range(150):
                desk, states = random.choice(desks)
                self.step(random, desk, states, cells, most)
                if random.random() < 0.03:
                    desks.append((desk.copy(), list(states)))
                for desk, states in desks:
                    fullest = max(fullest, len(desk))
                    self.assertEqual([desk.book, len(desk)], [Book(cells, most, states[-1]), len(states[-1])])
        self.assertGreater(fullest, 5)


if __name__ == "__main__":
    unittest.main()
