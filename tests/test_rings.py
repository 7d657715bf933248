"""[7]: rows that go round."""

import unittest

from stretchtold.books import Book
from stretchtold.desks import Desk
from stretchtold.errors import BadRing, BadStretch, NoRow
from stretchtold.rings import Ring, ring_bounds, ring_row, ring_totals
from stretchtold.rounds import Round
from tests.ring_kinds import NO_RING_STRETCHES, RingKindTests
from tests.turning import (fitting_ring, full_rings, paired_rings, ring_stretches, ring_sum, searched_ring,
                           small_rings)

TOLD = Ring(3, 2, ((2, 4, 4, 4), (0, 2, 0, 2)))
OFF = Ring(3, 2, ((2, 4, 5, 9),))
NO_RINGS = [None, True, 1, "ring", (3, 2, ()), [TOLD], {}, Book(3, 2, ((0, 2, 0, 2),)), Round(3, 2, ()), Desk(3, 2)]


class RingTest(RingKindTests, unittest.TestCase):
    kind = Ring
    most_cells, greatest_most, most_facts = 8, 9, 12


class ExampleTest(unittest.TestCase):
    def test_example(self):
        self.assertEqual([ring_totals(TOLD), ring_bounds(TOLD, 0, 1), ring_bounds(TOLD, 1, 4), ring_row(TOLD)],
                         [[4], (2, 2), (4, 4), (2, 0, 2)])


class AllRowsTest(unittest.TestCase):
    def check_ring(self, ring, rows):
        self.assertEqual(ring_totals(ring), sorted({sum(row) for row in rows}))
        if rows:
            self.assertEqual(ring_row(ring), min(rows))
        else:
            self.assertRaises(NoRow, ring_row, ring)
        for begin, end in ring_stretches(ring.cells):
            numbers = [ring_sum(row, begin, end) for row in rows]
            if rows:
                self.assertEqual(ring_bounds(ring, begin, end), (min(numbers), max(numbers)))
            else:
                self.assertRaises(NoRow, ring_bounds, ring, begin, end)

    def test_small_rings(self):
        kinds = set()
        for ring in small_rings(21, 400):
            rows = fitting_ring(ring)
            kinds.add(bool(rows))
            self.check_ring(ring, rows)
        self.assertEqual(kinds, {True, False})

    def test_small_rings_with_twelve_facts(self):
        facts = tuple([(begin, begin + many, 1, 2 + many) for begin in range(4) for many in (1, 2, 3)])
        for ring in (Ring(4, 4, facts), Ring(4, 4, facts[:11] + ((3, 7, 9, 9),)), Ring(4, 1, facts[:11])):
            self.check_ring(ring, fitting_ring(ring))

    def test_eight_cells(self):
        for facts in ((), ((6, 10, 4, 4), (3, 7, 0, 1)), ((5, 13, 9, 9),), ((7, 14, 2, 3), (2, 9, 7, 8))):
            ring = Ring(8, 1, facts)
            self.check_ring(ring, fitting_ring(ring))

    def test_full_rings(self):
        seen = 0
        for ring, row in full_rings(22, 10):
            rows = searched_ring(ring)
            self.assertIn(row, rows)
            seen = max(seen, len(rows))
            self.check_ring(ring, rows)
            begin, end = ring.facts[0][:2]
            there = ring_sum(row, begin, end)
            off = Ring(8, 9, ring.facts[:11] + ((begin, end, there + 1, there + 1),))
            self.assertEqual(ring_totals(off), [])
            self.assertRaises(NoRow, ring_bounds, off, begin, end)
            self.assertRaises(NoRow, ring_row, off)
        self.assertGreater(seen, 50)

    def test_full_rings_with_unlike_totals(self):
        seen = 0
        for ring in paired_rings(23, 8):
            rows = searched_ring(ring)
            seen = max(seen, len({sum(row) for row in rows}))
            self.check_ring(ring, rows)
        self.assertGreater(seen, 3)


class EdgeTest(unittest.TestCase):
    def test_one_cell(self):
        ring = Ring(1, 5, ((0, 1, 2, 9),))
        self.assertEqual([ring_totals(ring), ring_bounds(ring, 0, 1), ring_row(ring)], [[2, 3, 4, 5], (2, 5), (2,)])

    def test_nothing_may_lie_in_a_cell(self):
        ring = Ring(3, 0, ((2, 5, 0, 4),))
        self.assertEqual([ring_totals(ring), ring_bounds(ring, 1, 4), ring_row(ring)], [[0], (0, 0), (0, 0, 0)])
        self.assertEqual(ring_totals(Ring(3, 0, ((2, 5, 1, 4),))), [])

    def test_no_fact(self):
        ring = Ring(8, 9, ())
        self.assertEqual([ring_totals(ring), ring_row(ring)], [list(range(73)), (0,) * 8])
        self.assertEqual([ring_bounds(ring, 7, 8), ring_bounds(ring, 7, 9), ring_bounds(ring, 7, 15)],
                         [(0, 9), (0, 18), (0, 72)])

    def test_stretches_that_go_once_round(self):
        for begin in range(4):
            ring = Ring(4, 2, ((begin, begin + 4, 3, 5), ((begin + 1) % 4, (begin + 1) % 4 + 4, 5, 10 ** 32)))
            self.assertEqual([ring_totals(ring), ring_row(ring)], [[5], (0, 1, 2, 2)])
            self.assertEqual([ring_bounds(ring, place, place + 4) for place in range(4)], [(5, 5)] * 4)
            self.assertEqual(ring_bounds(ring, 3, 6), (3, 5))

    def test_the_same_fact_twice(self):
        ring = Ring(3, 3, ((2, 4, 5, 5), (2, 4, 5, 5)))
        self.assertEqual([ring_totals(ring), ring_row(ring)], [[5, 6, 7, 8], (2, 0, 3)])

    def test_facts_of_great_numbers(self):
        self.assertEqual(ring_totals(Ring(2, 1, ((1, 3, 0, 10 ** 32), (1, 2, 0, 10 ** 32)))), [0, 1, 2])
        self.assertEqual(ring_totals(Ring(2, 1, ((1, 3, 10 ** 32, 10 ** 32),))), [])

    def test_each_two_neighbours_told(self):
        ring = Ring(3, 9, ((0, 2, 2, 2), (1, 3, 3, 3), (2, 4, 3, 3)))
        self.assertEqual([ring_totals(ring), ring_row(ring)], [[4], (1, 1, 2)])
        # Three pairs with one thing each would need one and a half things in all.
        self.assertEqual(ring_totals(Ring(3, 9, ((0, 2, 1, 1), (1, 3, 1, 1), (2, 4, 1, 1)))), [])


class WrongTest(unittest.TestCase):
    def test_no_ring(self):
        for ring in NO_RINGS:
            with self.subTest(ring=ring):
                self.assertRaises(BadRing, ring_totals, ring)
                self.assertRaises(BadRing, ring_bounds, ring, None, None)
                self.assertRaises(BadRing, ring_row, ring)

    def test_no_stretch(self):
        for begin, end in NO_RING_STRETCHES:
            for ring in (TOLD, OFF):
                with self.subTest(begin=begin, end=end), self.assertRaises(BadStretch):
                    ring_bounds(ring, begin, end)

    def test_no_row(self):
        self.assertEqual(ring_totals(OFF), [])
        self.assertRaises(NoRow, ring_bounds, OFF, 0, 1)
        self.assertRaises(NoRow, ring_row, OFF)


if __name__ == "__main__":
    unittest.main()
