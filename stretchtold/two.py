"""Two books: which rows fit just one of them, and the fewest facts that say the same."""

from stretchtold.bounding import book_table, fitting_table
from stretchtold.books import all_stretches, check_book
from stretchtold.errors import NotAlike
from stretchtold.tables import cell_table, table_bounds, table_least_row, with_fact, with_step


def check_two(one, other):
    check_book(one)
    check_book(other)
    if one.cells != other.cells:
        raise NotAlike()


def steps_beyond(book):
    """Steps (start, goal, weight), one for each way in which a row can fail to fit."""
    steps = [(cell + 1, cell, -(book.most + 1)) for cell in range(book.cells)]
    for begin, end, low, high in book.facts:
        steps += [(begin, end, low - 1), (end, begin, -(high + 1))]
    return steps


def least_row_beyond(one, other):
    """The least row that fits the book one and not the book other, None if there is none."""
    table = book_table(one)
    if table is None:
        return None
    beyond = [with_step(table, start, goal, weight) for start, goal, weight in steps_beyond(other)]
    return min([table_least_row(part) for part in beyond if part is not None], default=None)


def within(one, other):
    """Whether each row that fits the book one fits the book other."""
    check_two(one, other)
    return least_row_beyond(one, other) is None


def first_unlike(one, other):
    """The least row that fits just one of both books, None if there is none."""
    check_two(one, other)
    found = [least_row_beyond(one, other), least_row_beyond(other, one)]
    return min([row for row in found if row is not None], default=None)


def alike(one, other):
    """Whether the same rows fit both books."""
    return first_unlike(one, other) is None


def closed(book):
    """The ascending list of (begin, end, least, greatest) of all stretches, with their bounds."""
    check_book(book)
    table = fitting_table(book)
    return [(begin, end) + table_bounds(table, begin, end) for begin, end in all_stretches(book.cells)]


def longer_lots(facts, lot, table):
    """The lots of one fact more, behind those of a lot, each with its table."""
    first = lot[-1] + 1 if lot else 0
    return [(lot + (index,), with_fact(table, facts[index])) for index in range(first, len(facts))]


def lots_with(lots, goal):
    return [lot for lot, table in lots if table == goal]


def smallest_kept(book):
    """The ascending list of the smallest lots of facts by which alone the same rows fit."""
    check_book(book)
    goal = book_table(book)
    lots = [((), cell_table(book.cells, book.most))]
    found = lots_with(lots, goal)
    # A lot that no row fits is found at once, as then none fits the book: so all that are led on have a table.
    while not found:
        lots = [longer for lot, table in lots for longer in longer_lots(book.facts, lot, table)]
        found = lots_with(lots, goal)
    return found
