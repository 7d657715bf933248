"""An own look at all rows of small books, and at chains, told by the document alone."""

from itertools import combinations, product
from random import Random

from stretchtold.books import Book

# What is no integer, whatever the limits are.
NO_INTEGERS = [None, True, False, "", "1", (), (1,), [], [1], {}, {1: 1}, Book(1, 1, ())]

GREAT = 10 ** 30


def all_rows(book):
    return list(product(range(book.most + 1), repeat=book.cells))


def row_fits(facts, row):
    return all(low <= sum(row[begin:end]) <= high for begin, end, low, high in facts)


def fitting(book, facts=None):
    facts = book.facts if facts is None else facts
    return [row for row in all_rows(book) if row_fits(facts, row)]


def stretches(book):
    return list(combinations(range(book.cells + 1), 2))


def numbers_in(rows, begin, end):
    return [sum(row[begin:end]) for row in rows]


def fewest_facts(book):
    """The least size of a lot of facts that no row fits, None if some row fits all of them."""
    for size in range(len(book.facts) + 1):
        for lot in combinations(book.facts, size):
            if not fitting(book, lot):
                return size
    return None


def all_links(book):
    facts = [("fact", index, way) for index in range(len(book.facts)) for way in (1, -1)]
    return facts + [("cell", index, way) for index in range(book.cells) for way in (1, -1)]


def link_walk(book, link):
    word, index, way = link
    if word == "fact":
        begin, end, low, high = book.facts[index]
        return (begin, end, high) if way > 0 else (end, begin, -low)
    return (index, index + 1, book.most) if way > 0 else (index + 1, index, 0)


def chain_walk(book, chain):
    """Where a chain of real links begins and ends, and its weight; None if it is torn."""
    first = place = link_walk(book, chain[0])[0]
    weight = 0
    for link in chain:
        start, goal, more = link_walk(book, link)
        if start != place:
            return None
        place, weight = goal, weight + more
    return first, place, weight


def facts_in(chain):
    return len([link for link in chain if link[0] == "fact"])


def random_fact(random, cells, greatest):
    begin = random.randrange(cells)
    low = random.randint(0, greatest)
    return begin, random.randint(begin + 1, cells), low, random.choice([low, random.randint(low, greatest)])


def small_books(seed, many):
    """Books small enough to look at all rows, some of which no row fits."""
    random = Random(seed)
    out = []
    for _ in range(many):
        cells, most = random.randint(1, 4), random.randint(0, 3)
        facts = [random_fact(random, cells, cells * most + 1) for _ in range(random.randint(0, 4))]
        out.append(Book(cells, most, tuple(facts)))
    return out


def tiny_books():
    """All books of two cells with at most one thing each, and two facts."""
    facts = [(begin, end, low, high) for begin, end in ((0, 1), (1, 2), (0, 2))
             for low in range(3) for high in range(low, 3)]
    return [Book(2, 1, pair) for pair in product(facts, repeat=2)]


def great_books(seed, many):
    """Books at the limits, with a row that fits each: (book, row)."""
    random = Random(seed)
    out = []
    for _ in range(many):
        row = tuple([random.choice([0, GREAT, random.randint(0, GREAT)]) for _ in range(20)])
        facts = []
        for _ in range(12):
            begin = random.randrange(20)
            end = random.randint(begin + 1, 20)
            there = sum(row[begin:end])
            spare = random.choice([0, 10 ** 28, 10 ** 31])
            facts.append((begin, end, max(0, there - random.randint(0, spare)), there + random.randint(0, spare)))
        out.append((Book(20, GREAT, tuple(facts)), row))
    return out
