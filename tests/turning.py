"""An own look at all rows of rings, told by the document alone."""

from itertools import product
from random import Random

from stretchtold.rings import Ring
from stretchtold.rounds import Round

GREAT = 10 ** 30


def ring_sum(row, begin, end):
    return sum(row[place % len(row)] for place in range(begin, end))


def ring_fits(facts, row):
    return all(low <= ring_sum(row, begin, end) <= high for begin, end, low, high in facts)


def fitting_ring(ring):
    return [row for row in product(range(ring.most + 1), repeat=ring.cells) if ring_fits(ring.facts, row)]


def ring_stretches(cells):
    return [(begin, begin + many) for begin in range(cells) for many in range(1, cells + 1)]


def may_still_fit(ring, start):
    """Whether no fact is broken already by the first cells of a row, whatever lies in the further ones."""
    for begin, end, low, high in ring.facts:
        known = [start[place % ring.cells] for place in range(begin, end) if place % ring.cells < len(start)]
        if sum(known) > high or sum(known) + (end - begin - len(known)) * ring.most < low:
            return False
    return True


def searched_ring(ring):
    """As fitting_ring, for rings with too many rows to go through them all: cell by cell."""
    starts = [()]
    for _ in range(ring.cells):
        longer = [start + (number,) for start in starts for number in range(ring.most + 1)]
        starts = [start for start in longer if may_still_fit(ring, start)]
    return starts


def random_ring_fact(random, cells, greatest):
    begin = random.randrange(cells)
    low = random.randint(0, greatest)
    return begin, begin + random.randint(1, cells), low, random.choice([low, random.randint(low, greatest)])


def small_rings(seed, many):
    """Rings small enough to look at all rows, some of which no row fits."""
    random = Random(seed)
    out = []
    for _ in range(many):
        cells, most = random.randint(1, 4), random.randint(0, 3)
        facts = [random_ring_fact(random, cells, cells * most + 1) for _ in range(random.randint(0, 4))]
        out.append(Ring(cells, most, tuple(facts)))
    return out


def full_rings(seed, many):
    """Rings at the limits, with a row that fits each: (ring, row). Most facts are exact, so few rows fit."""
    random = Random(seed)
    out = []
    for _ in range(many):
        row = tuple([random.randint(0, 9) for _ in range(8)])
        facts = []
        for index in range(12):
            begin = random.randrange(8)
            end = begin + random.randint(1, 8)
            there = ring_sum(row, begin, end)
            spare = 0 if index < 6 else 4
            facts.append((begin, end, max(0, there - random.randint(0, spare)), there + random.randint(0, spare)))
        out.append((Ring(8, 9, tuple(facts)), row))
    return out


def paired_rings(seed, many):
    """Rings at the limits where two neighbours at a time have few or almost all things: the totals are unlike."""
    random = Random(seed)
    out = []
    for _ in range(many):
        lows = [random.choice([0, 2, 15, 17]) for _ in range(4)]
        row = [number for low in lows for number in (low // 2, low - low // 2)]
        facts = [(2 * index, 2 * index + 2, low, low + 1) for index, low in enumerate(lows)]
        for _ in range(8):
            begin = random.choice([1, 3, 5, 7])
            end = begin + random.randint(1, 8)
            there = ring_sum(row, begin, end)
            facts.append((begin, end, max(0, there - random.randint(0, 3)), there + random.randint(0, 3)))
        out.append(Ring(8, 9, tuple(facts)))
    return out


def as_round(ring):
    return Round(ring.cells, ring.most, ring.facts[:8])


def small_rounds(seed, many):
    return [as_round(ring) for ring in small_rings(seed, many)]


def crossed_rounds(seed, many):
    """Small rounds whose facts overlap one another all around, so that more in all often means less somewhere."""
    random = Random(seed)
    out = []
    for _ in range(many):
        cells = random.choice([3, 3, 4, 5])
        most = {3: 6, 4: 4, 5: 2}[cells]
        row, facts = [random.randint(0, most) for _ in range(cells)], []
        for begin in range(cells):
            end = begin + random.randint(2, cells - 1)
            there = ring_sum(row, begin, end)
            low, high = random.choice([(0, there), (there, cells * most), (there - 1, there + 1)])
            facts.append((begin, end, max(0, low), high))
        out.append(Round(cells, most, tuple(facts)))
    return out


def lifted_round(great):
    """The round with all numbers in cells lifted, so that the greatest is GREAT.

    A row fits just if the row with these lifted numbers fits the lifted one.
    """
    more = GREAT - great.most
    facts = [(cell, cell + 1, more, GREAT) for cell in range(great.cells)]
    facts += [(begin, end, low + (end - begin) * more, high + (end - begin) * more)
              for begin, end, low, high in great.facts]
    return Round(great.cells, GREAT, tuple(facts))


def great_rounds(seed, many, facts):
    """Rounds of ten cells with numbers of thirty figures and so many facts, and a row that fits each: (round, row)."""
    random = Random(seed)
    out = []
    for _ in range(many):
        row = tuple([random.choice([0, GREAT, random.randint(0, GREAT)]) for _ in range(10)])
        told = []
        for _ in range(facts):
            begin = random.randrange(10)
            end = begin + random.randint(1, 10)
            there, spare = ring_sum(row, begin, end), random.choice([0, 10 ** 28, 10 ** 30])
            told.append((begin, end, max(0, there - random.randint(0, spare)), there + random.randint(0, spare)))
        out.append((Round(10, GREAT, tuple(told)), row))
    return out
