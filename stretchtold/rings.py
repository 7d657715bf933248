"""Rings: rows that go round, the cell 0 standing behind the last one."""

from stretchtold.books import MOST_FACTS, check_facts
from stretchtold.checks import is_between
from stretchtold.errors import BadCells, BadMost, BadRing, BadStretch, NoRow
from stretchtold.tables import table_bounds, table_least_row, told_table

MOST_RING_CELLS = 8
GREATEST_RING_MOST = 9


class Ring:
    """Cells that go round, the greatest number in one, and the facts told of their stretches."""

    def __init__(self, cells, most, facts):
        if not is_between(cells, 1, MOST_RING_CELLS):
            raise BadCells()
        if not is_between(most, 0, GREATEST_RING_MOST):
            raise BadMost()
        check_facts(facts, MOST_FACTS, cells, is_ring_stretch)
        self._cells = cells
        self._most = most
        self._facts = facts

    @property
    def cells(self):
        return self._cells

    @property
    def most(self):
        return self._most

    @property
    def facts(self):
        return self._facts

    def __len__(self):
        return len(self._facts)

    def __eq__(self, other):
        return (isinstance(other, Ring) and self._cells == other._cells
                and self._most == other._most and self._facts == other._facts)


def is_ring_stretch(begin, end, cells):
    return is_between(begin, 0, cells - 1) and is_between(end, begin + 1, begin + cells)


def check_ring(ring):
    if not isinstance(ring, Ring):
        raise BadRing()


def straight_fact(fact, cells, total):
    """What a fact tells of a stretch that stays below the last place, if total things lie in all cells."""
    begin, end, low, high = fact
    if end <= cells:
        return fact
    # The cells that such a stretch leaves out lie side by side, and have what it has not.
    # If it goes once round, they are none: then the fact tells just of total.
    return end - cells, begin, total - high, total - low


def total_table(ring, total):
    """The table of all rows that fit with total things together, None if there is none."""
    cells = ring.cells
    straight = [straight_fact(fact, cells, total) for fact in ring.facts]
    return told_table(cells, ring.most, [(0, cells, total, total)] + straight)


def total_tables(ring):
    """The list of (total, table) of all totals that some rows that fit have."""
    tables = [(total, total_table(ring, total)) for total in range(ring.cells * ring.most + 1)]
    return [(total, table) for total, table in tables if table is not None]


def fitting_tables(ring):
    tables = total_tables(ring)
    if not tables:
        raise NoRow()
    return tables


def bounds_with(total, table, begin, end):
    """The bounds of a stretch of all rows of a table, which have total things together."""
    cells = len(table) - 1
    if end <= cells:
        return table_bounds(table, begin, end)
    least, greatest = table_bounds(table, end - cells, begin)
    return total - greatest, total - least


def ring_totals(ring):
    """The ascending list of all numbers of things that rows that fit have together."""
    check_ring(ring)
    return [total for total, _ in total_tables(ring)]


def ring_bounds(ring, begin, end):
    """The least and the greatest number of things in a stretch, of all rows that fit."""
    check_ring(ring)
    if not is_ring_stretch(begin, end, ring.cells):
        raise BadStretch()
    found = [bounds_with(total, table, begin, end) for total, table in fitting_tables(ring)]
    return min([least for least, _ in found]), max([greatest for _, greatest in found])


def ring_row(ring):
    """The least row that fits."""
    check_ring(ring)
    return min([table_least_row(table) for _, table in fitting_tables(ring)])
