"""Small rows: all that fit a book, and what to count to tell them apart; counters that are off by one."""

from itertools import combinations

from stretchtold.books import all_stretches, check_book, check_row, fits, is_stretch
from stretchtold.checks import is_between
from stretchtold.errors import BadRests, NoRow, TooMany
from stretchtold.tables import told_table, with_fact

MOST_SMALL_CELLS = 6
MOST_CELLS_TOLD_APART = 4
GREATEST_SMALL_MOST = 9
MOST_ROWS = 5000
MOST_RESTS = 12


def is_rest(value, cells):
    if not isinstance(value, tuple) or len(value) != 3:
        return False
    begin, end, figure = value
    return is_stretch(begin, end, cells) and is_between(figure, 0, 9)


def check_rests(book, rests):
    if not isinstance(rests, tuple) or len(rests) > MOST_RESTS:
        raise BadRests(None)
    for index, value in enumerate(rests):
        if not is_rest(value, book.cells):
            raise BadRests(index)


def number_of_rows(cells, most):
    number = 1
    for _ in range(cells):
        number *= most + 1
    return number


def check_small(book, most_cells):
    if book.cells > most_cells or book.most > GREATEST_SMALL_MOST:
        raise TooMany()
    if number_of_rows(book.cells, book.most) > MOST_ROWS:
        raise TooMany()


def all_rows(cells, most):
    """The ascending list of all rows, whatever is told of them."""
    found = [()]
    for _ in range(cells):
        found = [row + (number,) for row in found for number in range(most + 1)]
    return found


def keeps_rests(row, rests):
    return all([sum(row[begin:end]) % 10 == figure for begin, end, figure in rests])


def rows_left(book, rests):
    return [row for row in all_rows(book.cells, book.most) if fits(book, row) and keeps_rests(row, rests)]


def some_rows_left(book, rests):
    left = rows_left(book, rests)
    if not left:
        raise NoRow()
    return left


def rows(book, rests):
    """The ascending list of all rows that fit, and for which the rests are so."""
    check_book(book)
    check_rests(book, rests)
    check_small(book, MOST_SMALL_CELLS)
    return rows_left(book, rests)


def sum_of_differences(one, other):
    return sum([abs(number - further) for number, further in zip(one, other)])


def nearest(book, rests, row):
    """The least sum of all differences of such rows from a row, and the list of all that have it."""
    check_book(book)
    check_rests(book, rests)
    check_row(book, row)
    check_small(book, MOST_SMALL_CELLS)
    told = [(sum_of_differences(row, other), other) for other in some_rows_left(book, rests)]
    least = min([distance for distance, _ in told])
    return least, [other for distance, other in told if distance == least]


def numbers_in(found, begin, end):
    return [sum(row[begin:end]) for row in found]


def left_at_worst(numbers):
    """How many rows are left at worst, of rows that have these numbers in a stretch, if theirs is told."""
    times = {}
    for number in numbers:
        times[number] = times.get(number, 0) + 1
    return max(times.values())


def next_stretch(book, rests):
    """The least stretch whose number leaves the fewest rows at worst, and how many: (begin, end, left)."""
    check_book(book)
    check_rests(book, rests)
    check_small(book, MOST_SMALL_CELLS)
    found = some_rows_left(book, rests)
    told = [(left_at_worst(numbers_in(found, *stretch)), stretch) for stretch in all_stretches(book.cells)]
    left, (begin, end) = min(told)
    return begin, end, left


def are_unlike(columns):
    """Whether no two rows have the same number in each column."""
    told = list(zip(*columns))
    return len(set(told)) == len(told)


def fewest_stretches(book, rests):
    """The least of the shortest tuples of stretches whose numbers tell any two such rows apart."""
    check_book(book)
    check_rests(book, rests)
    check_small(book, MOST_CELLS_TOLD_APART)
    found = rows_left(book, rests)
    if len(found) < 2:
        return ()
    told = [(stretch, numbers_in(found, *stretch)) for stretch in all_stretches(book.cells)]
    # As many stretches as there are cells are enough: the cells one by one.
    for many in range(1, book.cells + 1):
        for lot in combinations(told, many):
            if are_unlike([numbers for _, numbers in lot]):
                return tuple([stretch for stretch, _ in lot])


def loose_fact(fact):
    begin, end, low, high = fact
    return begin, end, low - 1, high + 1


def lots_off(table, facts, index, many):
    """The ascending list of the lots of so many of the facts from index on without which some row fits.

    The table tells all facts ahead of index as they are to be, and the further ones loosely,
    so it is None as soon as no lot can help.
    """
    if table is None or many > len(facts) - index:
        return []
    if index == len(facts):
        return [()]
    further = lots_off(table, facts, index + 1, many - 1) if many else []
    kept = with_fact(table, facts[index])
    return [(index,) + lot for lot in further] + lots_off(kept, facts, index + 1, many)


def fewest_off(book):
    """The ascending list of the smallest lots of facts that, if off by one, let some row fit."""
    check_book(book)
    table = told_table(book.cells, book.most, [loose_fact(fact) for fact in book.facts])
    for many in range(len(book) + 1):
        found = lots_off(table, book.facts, 0, many)
        if found:
            return found
    return []
