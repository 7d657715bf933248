"""Tests of what the classes Ring and Round have in common: properties, limits, and what they refuse."""

from stretchtold.books import Book
from stretchtold.desks import Desk
from stretchtold.errors import BadCells, BadFacts, BadMost
from stretchtold.rings import Ring
from stretchtold.rounds import Round
from tests.looking import GREAT, NO_INTEGERS
from tests.turning import ring_stretches

FACT = (0, 1, 0, 1)

# What is no stretch of a ring of three cells.
NO_RING_STRETCHES = [(-1, 1), (3, 4), (3, 6), (4, 5), (0, 0), (2, 2), (1, 0), (2, 1), (0, 4), (1, 5), (2, 6), (0, -1)]
NO_RING_STRETCHES += [(value, 1) for value in NO_INTEGERS] + [(0, value) for value in NO_INTEGERS]


class RingKindTests:
    """Beside TestCase, with the class that is tested as kind, and its limits."""

    def test_properties(self):
        told = self.kind(3, 2, ((2, 4, 4, 4), (0, 2, 0, 2)))
        self.assertEqual([told.cells, told.most, told.facts, len(told)], [3, 2, ((2, 4, 4, 4), (0, 2, 0, 2)), 2])

    def test_limits_may_be_reached(self):
        facts = ((self.most_cells - 1, 2 * self.most_cells - 1, 0, 10 ** 32),) * self.most_facts
        full = self.kind(self.most_cells, self.greatest_most, facts)
        self.assertEqual((full.cells, full.most, full.facts, len(full)),
                         (self.most_cells, self.greatest_most, facts, self.most_facts))
        least = self.kind(1, 0, ())
        self.assertEqual((least.cells, least.most, least.facts, len(least)), (1, 0, (), 0))
        self.assertEqual(len(self.kind(1, 0, ((0, 1, 10 ** 32, 10 ** 32),))), 1)

    def test_properties_cannot_be_set(self):
        for name in ("cells", "most", "facts"):
            with self.assertRaises(AttributeError):
                setattr(self.kind(2, 2, ()), name, ())

    def test_equal_if_all_three_are(self):
        told = self.kind(2, 3, (FACT,))
        self.assertTrue(told == self.kind(2, 3, (FACT,)))
        self.assertFalse(told != self.kind(2, 3, (FACT,)))
        for cells, most, facts in ((3, 3, (FACT,)), (2, 4, (FACT,)), (2, 3, ()), (2, 3, (FACT, FACT)),
                                   (2, 3, ((0, 1, 0, 2),)), (2, 3, ((1, 2, 0, 1),))):
            self.assertFalse(told == self.kind(cells, most, facts))
            self.assertTrue(told != self.kind(cells, most, facts))
        self.assertNotEqual(self.kind(2, 3, ((0, 2, 1, 1),)), self.kind(2, 3, ((1, 3, 1, 1),)))
        self.assertNotEqual(self.kind(2, 3, (FACT, (1, 3, 0, 1))), self.kind(2, 3, ((1, 3, 0, 1), FACT)))

    def others(self):
        """What has the same cells, most and facts, but is of another kind."""
        alike = [Book(2, 3, ()), Ring(2, 3, ()), Round(2, 3, ()), Desk(2, 3)]
        return [other for other in alike if type(other) is not self.kind]

    def test_equal_to_nothing_of_another_kind(self):
        for other in [None, True, 0, "", (), (2, 3, ()), [2, 3, ()], {}] + self.others():
            self.assertFalse(self.kind(2, 3, ()) == other)
            self.assertFalse(other == self.kind(2, 3, ()))

    def test_it_is_no_other_kind(self):
        for other in self.others():
            self.assertFalse(isinstance(self.kind(2, 3, ()), type(other)) or isinstance(other, self.kind))

    def test_wrong_cells(self):
        for cells in NO_INTEGERS + [0, -1, self.most_cells + 1, 20, GREAT]:
            with self.subTest(cells=cells), self.assertRaises(BadCells):
                self.kind(cells, 1, ())

    def test_wrong_most(self):
        for most in NO_INTEGERS + [-1, self.greatest_most + 1, 10 ** 32]:
            with self.subTest(most=most), self.assertRaises(BadMost):
                self.kind(1, most, ())

    def assert_bad_facts(self, cells, facts, index):
        with self.subTest(facts=facts), self.assertRaises(BadFacts) as caught:
            self.kind(cells, 1, facts)
        self.assertEqual(caught.exception.index, index)
        self.assertIs(type(caught.exception.index), type(index))

    def test_facts_that_are_no_tuple_or_too_many(self):
        for facts in [None, True, 0, 1, "", "fact", [], [FACT], {}, {0: FACT}, self.kind(1, 1, ()),
                      (FACT,) * (self.most_facts + 1), (None,) * (self.most_facts + 1), (FACT,) * 13]:
            self.assert_bad_facts(1, facts, None)

    def test_wrong_facts(self):
        wrong = NO_INTEGERS + [FACT[:3], FACT + (1,), list(FACT), "0101", 7]
        wrong += [(begin, end, 0, 1) for begin, end in NO_RING_STRETCHES]
        wrong += [(0, 1, low, 1) for low in NO_INTEGERS + [-1, 2]]
        wrong += [(0, 1, 0, high) for high in NO_INTEGERS + [-1, 10 ** 32 + 1]]
        wrong += [(0, 1, 10 ** 32 + 1, 10 ** 32 + 1), (2, 4, 3, 2)]
        before = self.most_facts - 1
        for value in wrong:
            self.assert_bad_facts(3, (value,), 0)
            self.assert_bad_facts(3, ((2, 5, 0, 1),) * before + (value,), before)

    def test_the_first_wrong_fact_is_named(self):
        self.assert_bad_facts(3, (FACT, (2, 6, 0, 1), FACT, None), 1)

    def test_the_first_wrong_argument_counts(self):
        self.assertRaises(BadCells, self.kind, True, -1, None)
        self.assertRaises(BadMost, self.kind, 1, True, None)

    def test_all_stretches_may_stand_in_facts(self):
        for cells in range(1, self.most_cells + 1):
            for begin, end in ring_stretches(cells):
                self.assertEqual(self.kind(cells, 1, ((begin, end, 0, 1),)).facts, ((begin, end, 0, 1),))
