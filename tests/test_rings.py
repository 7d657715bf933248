"""[7]: rows that go round."""

import unittest

from stretchtold.books import Book
from stretchtold.errors import BadCells, BadFacts, BadMost, BadRing, BadStretch, NoRow
from stretchtold.rings import Ring, ring_bounds, ring_row, ring_totals
from tests.looking import NO_INTEGERS
from tests.turning import (fitting_ring, full_rings, paired_rings, ring_stretches, ring_sum, searched_ring,
                           small_rings)

TOLD = Ring(3, 2, ((2, 4, 4, 4), (0, 2, 0, 2)))
OFF = Ring(3, 2, ((2, 4, 5, 9),))
FACT = (0, 1, 0, 1)
NO_RINGS = [None, True, 1, "ring", (3, 2, ()), [TOLD], {}, Book(3, 2, ((0, 2, 0, 2),))]

# What is no stretch of a ring of three cells.
NO_STRETCHES = [(-1, 1), (3, 4), (3, 6), (4, 5), (0, 0), (2, 2), (1, 0), (2, 1), (0, 4), (1, 5), (2, 6), (0, -1)]
NO_STRETCHES += [(value, 1) for value in NO_INTEGERS] + [(0, value) for value in NO_INTEGERS]


class RingTest(unittest.TestCase):
    def test_properties(self):
        self.assertEqual([TOLD.cells, TOLD.most, TOLD.facts, len(TOLD)], [3, 2, ((2, 4, 4, 4), (0, 2, 0, 2)), 2])

    def test_limits_may_be_reached(self):
        full = Ring(8, 9, ((7, 15, 0, 10 ** 32),) * 12)
        self.assertEqual((full.cells, full.most, full.facts, len(full)), (8, 9, ((7, 15, 0, 10 ** 32),) * 12, 12))
        least = Ring(1, 0, ())
        self.assertEqual((least.cells, least.most, least.facts, len(least)), (1, 0, (), 0))
        self.assertEqual(len(Ring(1, 0, ((0, 1, 10 ** 32, 10 ** 32),))), 1)

    def test_properties_cannot_be_set(self):
        for name in ("cells", "most", "facts"):
            with self.assertRaises(AttributeError):
                setattr(Ring(2, 2, ()), name, ())

    def test_equal_if_all_three_are(self):
        self.assertTrue(Ring(2, 3, (FACT,)) == Ring(2, 3, (FACT,)))
        self.assertFalse(Ring(2, 3, (FACT,)) != Ring(2, 3, (FACT,)))
        for other in (Ring(3, 3, (FACT,)), Ring(2, 4, (FACT,)), Ring(2, 3, ()), Ring(2, 3, (FACT, FACT)),
                      Ring(2, 3, ((0, 1, 0, 2),))):
            self.assertFalse(Ring(2, 3, (FACT,)) == other)
            self.assertTrue(Ring(2, 3, (FACT,)) != other)
        self.assertNotEqual(Ring(2, 3, ((0, 2, 1, 1),)), Ring(2, 3, ((1, 3, 1, 1),)))
        self.assertNotEqual(Ring(2, 3, (FACT, (1, 3, 0, 1))), Ring(2, 3, ((1, 3, 0, 1), FACT)))

    def test_equal_to_nothing_of_another_kind(self):
        for other in (None, True, 0, "", (), (2, 3, ()), [2, 3, ()], {}, Book(2, 3, ())):
            self.assertFalse(Ring(2, 3, ()) == other)
            self.assertFalse(other == Ring(2, 3, ()))

    def test_a_ring_is_no_book(self):
        self.assertFalse(isinstance(TOLD, Book))
        self.assertFalse(isinstance(Book(1, 1, ()), Ring))

    def test_each_method_is_in_the_class_itself(self):
        for name in ("__init__", "__len__", "__eq__", "cells", "most", "facts"):
            self.assertIn(name, vars(Ring))

    def test_wrong_cells(self):
        for cells in NO_INTEGERS + [0, -1, 9, 20, 10 ** 30]:
            with self.subTest(cells=cells), self.assertRaises(BadCells):
                Ring(cells, 1, ())

    def test_wrong_most(self):
        for most in NO_INTEGERS + [-1, 10, 10 ** 30]:
            with self.subTest(most=most), self.assertRaises(BadMost):
                Ring(1, most, ())

    def assert_bad_facts(self, cells, facts, index):
        with self.subTest(facts=facts), self.assertRaises(BadFacts) as caught:
            Ring(cells, 1, facts)
        self.assertEqual(caught.exception.index, index)
        self.assertIs(type(caught.exception.index), type(index))

    def test_facts_that_are_no_tuple_or_too_many(self):
        for facts in [None, True, 0, 1, "", "fact", [], [FACT], {}, {0: FACT}, TOLD, (FACT,) * 13, (None,) * 13]:
            self.assert_bad_facts(1, facts, None)

    def test_wrong_facts(self):
        wrong = NO_INTEGERS + [FACT[:3], FACT + (1,), list(FACT), "0101", 7]
        wrong += [(begin, end, 0, 1) for begin, end in NO_STRETCHES]
        wrong += [(0, 1, low, 1) for low in NO_INTEGERS + [-1, 2]]
        wrong += [(0, 1, 0, high) for high in NO_INTEGERS + [-1, 10 ** 32 + 1]]
        wrong += [(0, 1, 10 ** 32 + 1, 10 ** 32 + 1), (2, 4, 3, 2)]
        for value in wrong:
            self.assert_bad_facts(3, (value,), 0)
            self.assert_bad_facts(3, ((2, 5, 0, 1),) * 11 + (value,), 11)

    def test_the_first_wrong_fact_is_named(self):
        self.assert_bad_facts(3, (FACT, (2, 6, 0, 1), FACT, None), 1)

    def test_the_first_wrong_argument_counts(self):
        self.assertRaises(BadCells, Ring, True, -1, None)
        self.assertRaises(BadMost, Ring, 1, True, None)

    def test_all_stretches_may_stand_in_facts(self):
        for cells in range(1, 9):
            for begin, end in ring_stretches(cells):
                self.assertEqual(Ring(cells, 1, ((begin, end, 0, 1),)).facts, ((begin, end, 0, 1),))


class ExampleTest(unittest.TestCase):
    def test_example(self):
        self.assertEqual([ring_totals(TOLD), ring_bounds(TOLD, 0, 1), ring_bounds(TOLD, 1, 4), ring_row(TOLD)],
                         [[4], (2, 2), (4, 4), (2, 0, 2)])


class AllRowsTest(unittest.TestCase):
    def check_ring(self, ring, rows):
        self.assertEqual(ring_totals(ring), sorted({sum(row) for row in rows}))
        if rows:
            self.assertEqual(ring_row(ring), min(rows))
        else:
            self.assertRaises(NoRow, ring_row, ring)
        for begin, end in ring_stretches(ring.cells):
            numbers = [ring_sum(row, begin, end) for row in rows]
            if rows:
                self.assertEqual(ring_bounds(ring, begin, end), (min(numbers), max(numbers)))
            else:
                self.assertRaises(NoRow, ring_bounds, ring, begin, end)

    def test_small_rings(self):
        kinds = set()
        for ring in small_rings(21, 400):
            rows = fitting_ring(ring)
            kinds.add(bool(rows))
            self.check_ring(ring, rows)
        self.assertEqual(kinds, {True, False})

    def test_small_rings_with_twelve_facts(self):
        facts = tuple([(begin, begin + many, 1, 2 + many) for begin in range(4) for many in (1, 2, 3)])
        for ring in (Ring(4, 4, facts), Ring(4, 4, facts[:11] + ((3, 7, 9, 9),)), Ring(4, 1, facts[:11])):
            self.check_ring(ring, fitting_ring(ring))

    def test_eight_cells(self):
        for facts in ((), ((6, 10, 4, 4), (3, 7, 0, 1)), ((5, 13, 9, 9),), ((7, 14, 2, 3), (2, 9, 7, 8))):
            ring = Ring(8, 1, facts)
            self.check_ring(ring, fitting_ring(ring))

    def test_full_rings(self):
        seen = 0
        for ring, row in full_rings(22, 10):
            rows = searched_ring(ring)
            self.assertIn(row, rows)
            seen = max(seen, len(rows))
            self.check_ring(ring, rows)
            begin, end = ring.facts[0][:2]
            there = ring_sum(row, begin, end)
            off = Ring(8, 9, ring.facts[:11] + ((begin, end, there + 1, there + 1),))
            self.assertEqual(ring_totals(off), [])
            self.assertRaises(NoRow, ring_bounds, off, begin, end)
            self.assertRaises(NoRow, ring_row, off)
        self.assertGreater(seen, 50)

    def test_full_rings_with_unlike_totals(self):
        seen = 0
        for ring in paired_rings(23, 8):
            rows = searched_ring(ring)
            seen = max(seen, len({sum(row) for row in rows}))
            self.check_ring(ring, rows)
        self.assertGreater(seen, 3)


class EdgeTest(unittest.TestCase):
    def test_one_cell(self):
        ring = Ring(1, 5, ((0, 1, 2, 9),))
        self.assertEqual([ring_totals(ring), ring_bounds(ring, 0, 1), ring_row(ring)], [[2, 3, 4, 5], (2, 5), (2,)])

    def test_nothing_may_lie_in_a_cell(self):
        ring = Ring(3, 0, ((2, 5, 0, 4),))
        self.assertEqual([ring_totals(ring), ring_bounds(ring, 1, 4), ring_row(ring)], [[0], (0, 0), (0, 0, 0)])
        self.assertEqual(ring_totals(Ring(3, 0, ((2, 5, 1, 4),))), [])

    def test_no_fact(self):
        ring = Ring(8, 9, ())
        self.assertEqual([ring_totals(ring), ring_row(ring)], [list(range(73)), (0,) * 8])
        self.assertEqual([ring_bounds(ring, 7, 8), ring_bounds(ring, 7, 9), ring_bounds(ring, 7, 15)],
                         [(0, 9), (0, 18), (0, 72)])

    def test_stretches_that_go_once_round(self):
        for begin in range(4):
            ring = Ring(4, 2, ((begin, begin + 4, 3, 5), ((begin + 1) % 4, (begin + 1) % 4 + 4, 5, 10 ** 32)))
            self.assertEqual([ring_totals(ring), ring_row(ring)], [[5], (0, 1, 2, 2)])
            self.assertEqual([ring_bounds(ring, place, place + 4) for place in range(4)], [(5, 5)] * 4)
            self.assertEqual(ring_bounds(ring, 3, 6), (3, 5))

    def test_the_same_fact_twice(self):
        ring = Ring(3, 3, ((2, 4, 5, 5), (2, 4, 5, 5)))
        self.assertEqual([ring_totals(ring), ring_row(ring)], [[5, 6, 7, 8], (2, 0, 3)])

    def test_facts_of_great_numbers(self):
        self.assertEqual(ring_totals(Ring(2, 1, ((1, 3, 0, 10 ** 32), (1, 2, 0, 10 ** 32)))), [0, 1, 2])
        self.assertEqual(ring_totals(Ring(2, 1, ((1, 3, 10 ** 32, 10 ** 32),))), [])

    def test_each_two_neighbours_told(self):
        ring = Ring(3, 9, ((0, 2, 2, 2), (1, 3, 3, 3), (2, 4, 3, 3)))
        self.assertEqual([ring_totals(ring), ring_row(ring)], [[4], (1, 1, 2)])
        # Three pairs with one thing each would need one and a half things in all.
        self.assertEqual(ring_totals(Ring(3, 9, ((0, 2, 1, 1), (1, 3, 1, 1), (2, 4, 1, 1)))), [])


class WrongTest(unittest.TestCase):
    def test_no_ring(self):
        for ring in NO_RINGS:
            with self.subTest(ring=ring):
                self.assertRaises(BadRing, ring_totals, ring)
                self.assertRaises(BadRing, ring_bounds, ring, None, None)
                self.assertRaises(BadRing, ring_row, ring)

    def test_no_stretch(self):
        for begin, end in NO_STRETCHES:
            for ring in (TOLD, OFF):
                with self.subTest(begin=begin, end=end), self.assertRaises(BadStretch):
                    ring_bounds(ring, begin, end)

    def test_no_row(self):
        self.assertEqual(ring_totals(OFF), [])
        self.assertRaises(NoRow, ring_bounds, OFF, 0, 1)
        self.assertRaises(NoRow, ring_row, OFF)


if __name__ == "__main__":
    unittest.main()
