"""An own look at all rows of small books, and at chains, told by the document alone."""

from itertools import combinations, product
from random import Random

from stretchtold.books import Book
from stretchtold.desks import Desk
from stretchtold.errors import CountError
from stretchtold.rings import Ring
from stretchtold.rounds import Round

# What is no integer, whatever the limits are.
NO_INTEGERS = [None, True, False, "", "1", (), (1,), [], [1], {}, {1: 1}, ((1,), [None, {"": True}]),
               Book(1, 1, ()), Ring(1, 1, ()), Round(1, 1, ()), Desk(1, 1), CountError()]

NO_BOOKS = [None, True, 1, "book", (4, 3, ()), [Book(4, 3, ())], {}, Ring(4, 3, ()), Round(4, 3, ()), Desk(4, 3)]

# What is no stretch of four cells.
NO_STRETCHES = [(0, 0), (1, 0), (4, 4), (-1, 1), (0, 5), (4, 5)]
NO_STRETCHES += [(value, 1) for value in NO_INTEGERS] + [(0, value) for value in NO_INTEGERS]

# What is no row of four cells with at most 3 things each.
NO_ROWS = [None, True, 1, "1111", [1, 1, 1, 1], {}, Book(4, 3, ()), Desk(4, 3), (), (1, 1, 1), (1, 1, 1, 1, 1)]
NO_ROWS += [(value, 1, 1, 1) for value in NO_INTEGERS + [-1, 4]]
NO_ROWS += [(1, 1, 1, value) for value in NO_INTEGERS + [-1, 4]]

GREAT = 10 ** 30


def all_rows(book):
    return list(product(range(book.most + 1), repeat=book.cells))


def row_fits(facts, row):
    return all(low <= sum(row[begin:end]) <= high for begin, end, low, high in facts)


def fitting(book, facts=None):
    facts = book.facts if facts is None else facts
    return [row for row in all_rows(book) if row_fits(facts, row)]


def lots(facts):
    """All ascending tuples of indexes of facts, the shorter ones ahead."""
    return [lot for size in range(len(facts) + 1) for lot in combinations(range(len(facts)), size)]


def shortest(found):
    return [lot for lot in found if len(lot) == len(found[0])]


def stretches(book):
    return list(combinations(range(book.cells + 1), 2))


def numbers_in(rows, begin, end):
    return [sum(row[begin:end]) for row in rows]


def fewest_facts(book):
    """The least size of a lot of facts that no row fits, None if some row fits all of them."""
    for size in range(len(book.facts) + 1):
        for lot in combinations(book.facts, size):
            if not fitting(book, lot):
                return size
    return None


def all_links(book):
    facts = [("fact", index, way) for index in range(len(book.facts)) for way in (1, -1)]
    return facts + [("cell", index, way) for index in range(book.cells) for way in (1, -1)]


def far_links(book):
    return all_links(book) + [("row", index, way) for index in range(book.cells) for way in (1, -1)]


def link_walk(book, link, row):
    word, index, way = link
    if word == "fact":
        begin, end, low, high = book.facts[index]
        return (begin, end, high) if way > 0 else (end, begin, -low)
    if word == "row":
        return (index, index + 1, row[index]) if way > 0 else (index + 1, index, -row[index])
    return (index, index + 1, book.most) if way > 0 else (index + 1, index, 0)


def chain_walk(book, chain, row=None):
    """Where a chain of real links begins and ends, and its weight; None if it is torn. A row is for far links."""
    first = place = link_walk(book, chain[0], row)[0]
    weight = 0
    for link in chain:
        start, goal, more = link_walk(book, link, row)
        if start != place:
            return None
        place, weight = goal, weight + more
    return first, place, weight


def links_in(chain, word):
    return len([link for link in chain if link[0] == word])


def facts_in(chain):
    return links_in(chain, "fact")


def loop_shows(book, chain, word, number, row=None):
    """Whether a chain of real links leads back and weighs below 0, its links of a word weighing number - 1 more."""
    walked = chain_walk(book, chain, row)
    if walked is None or walked[0] != walked[1]:
        return False
    return walked[2] + links_in(chain, word) * (number - 1) < 0


def to_and_fro(many, word="cell"):
    """The cell 0, by links of this word, there and back, and there and back again."""
    return ((word, 0, 1), (word, 0, -1)) * (many // 2) + ((word, 0, 1),) * (many % 2)


def no_links(words, book):
    """What is no link of these words: other lengths, words, indexes and ways. The book has as many facts as cells."""
    out = NO_INTEGERS + [words[0], "row" + words[0], ("", 0, 1), ("Cell", 0, 1), ("rows", 0, 1), (("fact",), 0, 1)]
    out += [(word, 0, 1) for word in NO_INTEGERS if not isinstance(word, tuple)]
    for word in words:
        out += [(word,), (word, 0), (word, 0, 1, 1), [word, 0, 1]]
        out += [(word, index, 1) for index in NO_INTEGERS + [-1, book.cells, GREAT]]
        out += [(word, 0, way) for way in NO_INTEGERS + [0, 2, -2, GREAT]]
    return out


def random_fact(random, cells, greatest):
    begin = random.randrange(cells)
    low = random.randint(0, greatest)
    return begin, random.randint(begin + 1, cells), low, random.choice([low, random.randint(low, greatest)])


def small_books(seed, many):
    """Books small enough to look at all rows, some of which no row fits."""
    random = Random(seed)
    out = []
    for _ in range(many):
        cells, most = random.randint(1, 4), random.randint(0, 3)
        facts = [random_fact(random, cells, cells * most + 1) for _ in range(random.randint(0, 4))]
        out.append(Book(cells, most, tuple(facts)))
    return out


def fact_around(random, row, spare):
    """A fact that holds for a row, with up to so many things to spare on both sides."""
    begin = random.randrange(len(row))
    end = random.randint(begin + 1, len(row))
    there = sum(row[begin:end])
    return begin, end, max(0, there - random.randint(0, spare)), there + random.randint(0, spare)


def possible_books(seed, many):
    """Books small enough to look at all rows, each fitted by some row, often by many."""
    random = Random(seed)
    out = []
    for _ in range(many):
        cells, most = random.randint(1, 4), random.randint(1, 4)
        row = [random.randint(0, most) for _ in range(cells)]
        facts = [fact_around(random, row, random.randint(0, 3)) for _ in range(random.randint(0, 4))]
        out.append(Book(cells, most, tuple(facts)))
    return out


def tiny_books():
    """All books of two cells with at most one thing each, and two facts."""
    facts = [(begin, end, low, high) for begin, end in ((0, 1), (1, 2), (0, 2))
             for low in range(3) for high in range(low, 3)]
    return [Book(2, 1, pair) for pair in product(facts, repeat=2)]


def great_books(seed, many):
    """Books at the limits, with a row that fits each: (book, row)."""
    random = Random(seed)
    out = []
    for _ in range(many):
        row = tuple([random.choice([0, GREAT, random.randint(0, GREAT)]) for _ in range(20)])
        facts = [fact_around(random, row, random.choice([0, 10 ** 28, 10 ** 31])) for _ in range(12)]
        out.append((Book(20, GREAT, tuple(facts)), row))
    return out


def times(book, factor):
    """The book with all numbers so many times as great, and with further cells up to twenty."""
    facts = [(begin, end, low * factor, high * factor) for begin, end, low, high in book.facts]
    return Book(20, book.most * factor, tuple(facts))


def lifted(book):
    """The book with all numbers in cells lifted, so that the greatest is GREAT, and nothing in further cells up to 20.

    A row fits the book just if the row that lift gives fits the lifted one.
    """
    more = GREAT - book.most
    facts = [(cell, cell + 1, more, GREAT) for cell in range(book.cells)]
    facts += [(begin, end, low + (end - begin) * more, high + (end - begin) * more)
              for begin, end, low, high in book.facts]
    return Book(20, GREAT, tuple(facts) + ((book.cells, 20, 0, 0),))


def lift(book, row):
    return tuple([number + GREAT - book.most for number in row]) + (0,) * (20 - book.cells)
