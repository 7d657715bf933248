"""Great rings: rows that go round with numbers of thirty figures."""

from stretchtold.bounding import check_number
from stretchtold.books import GREATEST_MOST, check_facts
from stretchtold.checks import is_between
from stretchtold.errors import BadCells, BadMost, BadRound, BadStretch, NoRow
from stretchtold.rings import bounds_with, is_ring_stretch, straight_fact, total_table
from stretchtold.searches import least_that, losing_loop
from stretchtold.tables import table_least_row

MOST_ROUND_CELLS = 10
MOST_ROUND_FACTS = 8


class Round:
    """Cells that go round, the greatest number in one, and the facts told of their stretches, all great."""

    def __init__(self, cells, most, facts):
        if not is_between(cells, 1, MOST_ROUND_CELLS):
            raise BadCells()
        if not is_between(most, 0, GREATEST_MOST):
            raise BadMost()
        check_facts(facts, MOST_ROUND_FACTS, cells, is_ring_stretch)
        self._cells = cells
        self._most = most
        self._facts = facts

    @property
    def cells(self):
        return self._cells

    @property
    def most(self):
        return self._most

    @property
    def facts(self):
        return self._facts

    def __len__(self):
        return len(self._facts)

    def __eq__(self, other):
        return (isinstance(other, Round) and self._cells == other._cells
                and self._most == other._most and self._facts == other._facts)


def check_round(great):
    if not isinstance(great, Round):
        raise BadRound()


def both_ways(fact, turns):
    """The two steps of a fact that holds straight, marked by how often the total is in their weights."""
    begin, end, low, high = fact
    return [(turns, begin, end, high), (-turns, end, begin, -low)]


def round_steps(great, total):
    """All steps that hold if total things lie in all cells, marked by how often total is in their weights."""
    cells = great.cells
    steps = both_ways((0, cells, total, total), 1)
    for cell in range(cells):
        steps += both_ways((cell, cell + 1, 0, great.most), 0)
    for fact in great.facts:
        steps += both_ways(straight_fact(fact, cells, total), 0 if fact[1] <= cells else 1)
    return steps


def turns_wrong(great, total):
    """Above 0 if total is too small for any row that fits, below 0 if too great, 0 if some row has it.

    It is how often total is in the weight of a loop that weighs below 0: so the weight grows
    with the total, or falls with it. Any number may come if no row fits, whatever its total.
    """
    loop = losing_loop(great.cells + 1, round_steps(great, total))
    return 0 if loop is None else sum(loop)


def fitting_totals(great):
    """The least and the greatest total of all rows that fit."""
    beyond = great.cells * great.most + 1
    least = least_that(lambda total: turns_wrong(great, total) <= 0, 0, beyond)
    if total_table(great, least) is None:
        raise NoRow()
    return least, least_that(lambda total: turns_wrong(great, total) < 0, least, beyond) - 1


def bounds_at(great, total, begin, end):
    """The bounds of a stretch of all rows that fit with total things together."""
    return bounds_with(total, total_table(great, total), begin, end)


def round_totals(great):
    """The least and the greatest number of things that rows that fit have together."""
    check_round(great)
    return fitting_totals(great)


def round_with(great, total):
    """The least row that fits with total things together, None if there is none."""
    check_round(great)
    check_number(total)
    table = total_table(great, total)
    return None if table is None else table_least_row(table)


def round_bounds(great, begin, end):
    """The least and the greatest number of things in a stretch, of all rows that fit."""
    check_round(great)
    if not is_ring_stretch(begin, end, great.cells):
        raise BadStretch()
    first, last = fitting_totals(great)

    def bound(total, side):
        return bounds_at(great, total, begin, end)[side]

    # With growing totals the lower bound first falls, then rises: each chain gives it a straight
    # line, and it is the highest of them all. The upper bound first rises, then falls.
    lowest = least_that(lambda total: bound(total + 1, 0) >= bound(total, 0), first, last)
    highest = least_that(lambda total: bound(total + 1, 1) <= bound(total, 1), first, last)
    return bound(lowest, 0), bound(highest, 1)
