"""[18]: rows that go round with numbers of thirty figures."""

import unittest

from stretchtold.books import Book
from stretchtold.desks import Desk
from stretchtold.errors import BadNumber, BadRound, BadStretch, NoRow
from stretchtold.rings import Ring, ring_bounds, ring_row, ring_totals
from stretchtold.rounds import Round, round_bounds, round_totals, round_with
from tests.looking import NO_INTEGERS
from tests.ring_kinds import NO_RING_STRETCHES, RingKindTests
from tests.turning import (GREAT, as_round, crossed_rounds, fitting_ring, full_rings, great_rounds, lifted_round,
                           paired_rings, ring_fits, ring_stretches, ring_sum, small_rounds)

TOLD = Round(3, 2, ((2, 4, 4, 4), (0, 2, 0, 2)))
OFF = Round(3, 2, ((2, 4, 5, 9),))
NO_ROUNDS = [None, True, 1, "round", (3, 2, ()), [TOLD], {}, Book(3, 2, ()), Ring(3, 2, ()), Desk(3, 2)]


class RoundTest(RingKindTests, unittest.TestCase):
    kind = Round
    most_cells, greatest_most, most_facts = 10, GREAT, 8


class ExampleTest(unittest.TestCase):
    def test_small(self):
        self.assertEqual([round_totals(TOLD), round_bounds(TOLD, 0, 1), round_bounds(TOLD, 1, 4)],
                         [(4, 4), (2, 2), (4, 4)])
        self.assertEqual([round_with(TOLD, 4), round_with(TOLD, 5)], [(2, 0, 2), None])

    def test_great(self):
        great = Round(4, GREAT, ((3, 5, GREAT, 10 ** 31), (1, 3, 0, 5)))
        self.assertEqual([round_totals(great), round_bounds(great, 3, 4), round_bounds(great, 0, 2)[1]],
                         [(GREAT, 2 * GREAT + 5), (0, GREAT), GREAT + 5])


class AllRowsTest(unittest.TestCase):
    def check_round(self, great, rows, more=0):
        """All answers are as these rows, all numbers in cells being so many more, tell."""
        totals = sorted({sum(row) for row in rows})
        lift = more * great.cells
        if not rows:
            self.assertRaises(NoRow, round_totals, great)
        else:
            self.assertEqual(round_totals(great), (totals[0] + lift, totals[-1] + lift))
            self.assertEqual(totals, list(range(totals[0], totals[-1] + 1)))
        for total in range(-1, 20):
            least = min([row for row in rows if sum(row) == total], default=None)
            expected = None if least is None else tuple([number + more for number in least])
            self.assertEqual(round_with(great, total + lift), expected)
        for begin, end in ring_stretches(great.cells):
            if not rows:
                self.assertRaises(NoRow, round_bounds, great, begin, end)
            else:
                numbers = [ring_sum(row, begin, end) + more * (end - begin) for row in rows]
                self.assertEqual(round_bounds(great, begin, end), (min(numbers), max(numbers)))

    def test_small_rounds(self):
        kinds = set()
        for great in small_rounds(91, 400):
            rows = fitting_ring(great)
            kinds.add(bool(rows))
            self.check_round(great, rows)
        self.assertEqual(kinds, {True, False})

    def test_bounds_between_the_ends_of_the_totals(self):
        seen = {0: 0, 1: 0}
        for great in crossed_rounds(99, 60):
            rows = fitting_ring(great)
            self.check_round(great, rows)
            totals = [sum(row) for row in rows]
            at_ends = [row for row in rows if sum(row) in (min(totals), max(totals))]
            for begin, end in ring_stretches(great.cells):
                numbers = [ring_sum(row, begin, end) for row in at_ends]
                least, greatest = round_bounds(great, begin, end)
                seen[0] += least < min(numbers)
                seen[1] += greatest > max(numbers)
        self.assertTrue(seen[0] > 3 and seen[1] > 3, seen)

    def test_small_rounds_that_are_lifted(self):
        kinds = set()
        for great in small_rounds(92, 60) + [great for great in crossed_rounds(92, 30) if great.cells == 3]:
            rows = fitting_ring(great)
            kinds.add(bool(rows))
            self.check_round(lifted_round(great), rows, GREAT - great.most)
        self.assertEqual(kinds, {True, False})

    def test_small_rounds_with_eight_facts(self):
        facts = tuple([(begin, begin + many, 1, 2 + many) for begin in range(4) for many in (2, 3)])
        for great in (Round(4, 4, facts), Round(4, 4, facts[:7] + ((3, 7, 9, 9),)), Round(4, 1, facts)):
            self.check_round(great, fitting_ring(great))

    def test_ten_cells(self):
        for facts in ((), ((8, 12, 4, 4), (3, 9, 0, 1)), ((7, 17, 9, 9),), ((9, 16, 2, 3), (2, 11, 7, 8))):
            great = Round(10, 1, facts)
            self.check_round(great, fitting_ring(great))

    def test_rings_of_eight_cells(self):
        rings = [ring for ring, _ in full_rings(93, 3)] + paired_rings(94, 3)
        for ring in [Ring(8, 9, ring.facts[-8:]) for ring in rings]:
            great, totals = as_round(ring), ring_totals(ring)
            self.assertEqual(round_totals(great), (totals[0], totals[-1]))
            self.assertEqual(min([round_with(great, total) for total in totals]), ring_row(ring))
            for begin, end in ring_stretches(8):
                self.assertEqual(round_bounds(great, begin, end), ring_bounds(ring, begin, end))


class GreatTest(unittest.TestCase):
    def check_with(self, great, total):
        row = round_with(great, total)
        self.assertEqual([type(row), len(row), sum(row)], [tuple, great.cells, total])
        self.assertTrue(ring_fits(great.facts, row) and min(row) >= 0 and max(row) <= great.most)
        return row

    def check_totals(self, great):
        least, greatest = round_totals(great)
        for total in (least, (least + greatest) // 2, greatest):
            self.check_with(great, total)
        for total in (least - 1, greatest + 1, -1, great.cells * great.most + 1, -10 ** 40, 10 ** 40):
            self.assertIsNone(round_with(great, total))
        return least, greatest

    def with_fact(self, great, begin, end, low, high):
        return Round(great.cells, great.most, great.facts + ((begin, end, low, high),))

    def check_bounds(self, great, begin, end):
        """Both bounds are those of some row, and no row goes beyond; the sums of the row are looked at."""
        least, greatest = round_bounds(great, begin, end)
        for number in (least, greatest):
            told = self.with_fact(great, begin, end, number, number)
            row = self.check_with(told, round_totals(told)[0])
            self.assertEqual(ring_sum(row, begin, end), number)
        if least > 0:
            self.assertRaises(NoRow, round_totals, self.with_fact(great, begin, end, 0, least - 1))
        self.assertRaises(NoRow, round_totals, self.with_fact(great, begin, end, greatest + 1, 10 ** 32))
        return least, greatest

    def test_totals(self):
        for great, row in great_rounds(95, 25, 8):
            least, greatest = self.check_totals(great)
            self.assertTrue(least <= sum(row) <= greatest)
            self.assertLessEqual(self.check_with(great, sum(row)), row)

    def test_bounds(self):
        for great, row in great_rounds(96, 3, 7):
            for begin, end in ring_stretches(10)[::7]:
                least, greatest = self.check_bounds(great, begin, end)
                self.assertTrue(least <= ring_sum(row, begin, end) <= greatest)

    def test_bounds_once_round_are_the_totals(self):
        for great, _ in great_rounds(97, 3, 5):
            for begin in (0, 1, 6, 9):
                self.assertEqual(round_bounds(great, begin, begin + 10), round_totals(great))

    def test_rounds_that_are_turned(self):
        """Which cell is counted as 0 makes no difference for the numbers."""
        for great, _ in great_rounds(98, 3, 8):
            for turn in (1, 6):
                facts = [(begin + turn, end + turn, low, high) for begin, end, low, high in great.facts]
                facts = [fact if fact[0] < 10 else (fact[0] - 10, fact[1] - 10) + fact[2:] for fact in facts]
                turned = Round(10, GREAT, tuple(facts))
                self.assertEqual(round_totals(turned), round_totals(great))
                for begin, end in ((0, 1), (2, 8), (7, 14), (9, 10)):
                    further = (begin + turn) % 10
                    self.assertEqual(round_bounds(turned, further, further + end - begin),
                                     round_bounds(great, begin, end))

    def test_totals_that_only_going_round_tells(self):
        # Each two of three neighbours have at least 1, and 7, things: together half of three times as many.
        for low, high, totals in ((1, 1, None), (1, 2, (2, 3)), (7, 9, (11, 13)), (GREAT, GREAT, (3 * GREAT // 2,) * 2),
                                  (GREAT + 1, GREAT + 2, (3 * GREAT // 2 + 2, 3 * GREAT // 2 + 3))):
            great = Round(3, GREAT, ((0, 2, low, high), (1, 3, low, high), (2, 4, low, high)))
            if totals is None:
                self.assertRaises(NoRow, round_totals, great)
            else:
                self.assertEqual(self.check_totals(great), totals)
        five = Round(5, GREAT, tuple([(begin, begin + 3, GREAT, 10 ** 32) for begin in range(5)]))
        self.assertEqual(self.check_totals(five), ((5 * GREAT + 2) // 3, 5 * GREAT))


class EdgeTest(unittest.TestCase):
    def test_one_cell(self):
        great = Round(1, GREAT, ((0, 1, 2, 10 ** 32),))
        self.assertEqual([round_totals(great), round_bounds(great, 0, 1)], [(2, GREAT), (2, GREAT)])
        self.assertEqual([round_with(great, total) for total in (1, 2, GREAT, GREAT + 1)],
                         [None, (2,), (GREAT,), None])

    def test_nothing_may_lie_in_a_cell(self):
        for cells in (1, 10):
            great = Round(cells, 0, ((cells - 1, 2 * cells - 1, 0, 4),))
            self.assertEqual([round_totals(great), round_bounds(great, 0, cells)], [(0, 0), (0, 0)])
            self.assertEqual([round_with(great, total) for total in (-1, 0, 1)], [None, (0,) * cells, None])
            self.assertRaises(NoRow, round_totals, Round(cells, 0, ((cells - 1, 2 * cells - 1, 1, 4),)))

    def test_no_fact(self):
        great = Round(10, GREAT, ())
        self.assertEqual([round_totals(great), round_with(great, 0)], [(0, 10 * GREAT), (0,) * 10])
        self.assertEqual([round_bounds(great, 9, 10), round_bounds(great, 9, 11), round_bounds(great, 9, 19)],
                         [(0, GREAT), (0, 2 * GREAT), (0, 10 * GREAT)])
        self.assertEqual(round_with(great, GREAT + 3), (0,) * 8 + (3, GREAT))
        self.assertEqual(round_with(great, 10 * GREAT), (GREAT,) * 10)

    def test_stretches_that_go_once_round(self):
        for begin in range(4):
            great = Round(4, 2, ((begin, begin + 4, 3, 5), ((begin + 1) % 4, (begin + 1) % 4 + 4, 5, 10 ** 32)))
            self.assertEqual([round_totals(great), round_with(great, 5)], [(5, 5), (0, 1, 2, 2)])
            self.assertEqual([round_bounds(great, place, place + 4) for place in range(4)], [(5, 5)] * 4)

    def test_the_same_fact_eight_times(self):
        great = Round(3, 3, ((2, 4, 5, 5),) * 8)
        self.assertEqual([round_totals(great), round_with(great, 5)], [(5, 8), (2, 0, 3)])

    def test_facts_of_great_numbers(self):
        self.assertEqual(round_totals(Round(2, 1, ((1, 3, 0, 10 ** 32), (1, 2, 0, 10 ** 32)))), (0, 2))
        self.assertRaises(NoRow, round_totals, Round(2, 1, ((1, 3, 10 ** 32, 10 ** 32),)))

    def test_totals_that_five_facts_tell_together(self):
        # The stretches of the first three less those of the further two are all cells, each once.
        for most in (4, 9, GREAT):
            great = Round(5, most, ((2, 6, 0, 8), (1, 4, 0, 6), (4, 8, 0, 8), (0, 3, 6, 99), (2, 5, 6, 99)))
            self.assertEqual(round_totals(great), (6 if most > 4 else 8, 10))
            great = Round(5, most, ((2, 6, 8, 99), (1, 4, 6, 99), (4, 8, 8, 99), (0, 3, 0, 6), (2, 5, 0, 6)))
            self.assertEqual(round_totals(great), (10, 12))

    def test_the_greatest_number_at_a_total_in_the_middle(self):
        # In the cell 1 lie at most the total less 2, and at most 10 less the total.
        for more in (0, GREAT // 2):
            facts = ((0, 2, 0, 5 + more), (1, 3, 0, 5 + more), (2, 4, 2 + more, 10 ** 32))
            great = Round(3, GREAT, facts)
            self.assertEqual([round_totals(great), round_bounds(great, 1, 2)],
                             [(2 + more, 10 + 2 * more), (0, 4 + more // 2)])

    def test_the_least_number_at_a_total_in_the_middle(self):
        # In the cell 1 lie at least the total less 8, and at least 10 less the total.
        great = Round(3, 5, ((0, 2, 5, 9), (1, 3, 5, 9), (2, 4, 0, 8)))
        self.assertEqual([round_totals(great), round_bounds(great, 1, 2)], [(5, 13), (1, 5)])


class WrongTest(unittest.TestCase):
    def test_no_round(self):
        for great in NO_ROUNDS:
            with self.subTest(great=great):
                self.assertRaises(BadRound, round_totals, great)
                self.assertRaises(BadRound, round_with, great, None)
                self.assertRaises(BadRound, round_bounds, great, None, None)

    def test_no_number(self):
        for total in NO_INTEGERS:
            for great in (TOLD, OFF):
                with self.subTest(total=total):
                    self.assertRaises(BadNumber, round_with, great, total)

    def test_no_stretch(self):
        for begin, end in NO_RING_STRETCHES:
            for great in (TOLD, OFF):
                with self.subTest(begin=begin, end=end), self.assertRaises(BadStretch):
                    round_bounds(great, begin, end)

    def test_no_row(self):
        self.assertRaises(NoRow, round_totals, OFF)
        self.assertRaises(NoRow, round_bounds, OFF, 0, 1)
        self.assertEqual([round_with(OFF, total) for total in range(7)], [None] * 7)


if __name__ == "__main__":
    unittest.main()
