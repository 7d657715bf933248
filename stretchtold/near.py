"""Rows that are near, and counters off by much: by how much at least, and loops of links that show it."""

from stretchtold.bounding import fitting_table
from stretchtold.books import GREATEST_TOLD, check_book, check_row
from stretchtold.chains import (chain_step, fact_links, is_link, link_step, links_with, may_be_chain, two_way_links,
                                whole_step)
from stretchtold.checks import is_integer
from stretchtold.errors import BadNumber
from stretchtold.searches import least_that, losing_loop
from stretchtold.tables import table_least_row, told_table


def check_from_one(number):
    if not is_integer(number) or number < 1:
        raise BadNumber()


def spared(fact, spare):
    """The fact with so many things to spare on both sides."""
    begin, end, low, high = fact
    return begin, end, low - spare, high + spare


def near_table(book, row, distance):
    """The table of all rows that fit at no greater distance from a row, None if there is none."""
    cells = [spared((cell, cell + 1, number, number), distance) for cell, number in enumerate(row)]
    return told_table(book.cells, book.most, list(book.facts) + cells)


def off_table(book, spare):
    """The table of all rows that fit if each fact has so many things to spare, None if there is none."""
    return told_table(book.cells, book.most, [spared(fact, spare) for fact in book.facts])


def check_near(book, row):
    check_book(book)
    check_row(book, row)
    # Only for its NoRow.
    fitting_table(book)


def distance_from(book, row):
    # No two rows are at a greater distance than most.
    return least_that(lambda distance: near_table(book, row, distance) is not None, 0, book.most)


def least_spare(book):
    # With as much to spare as can be told, all rows fit.
    return least_that(lambda spare: off_table(book, spare) is not None, 0, GREATEST_TOLD)


def row_step(row, index, way):
    return (index, index + 1, row[index]) if way == 1 else (index + 1, index, -row[index])


def far_step(book, row, link):
    """The tuple (start, goal, weight) of a far link, None for any value that is none."""
    if is_link(link, "row", book.cells):
        return row_step(row, link[1], link[2])
    return link_step(book, link)


def all_links(book):
    return fact_links(book) + two_way_links("cell", book.cells)


def marked_step(link, step, word, spare):
    """The step of a link, marked by it, and heavier by spare if the link has this word."""
    start, goal, weight = step
    return link, start, goal, weight + (spare if link[0] == word else 0)


def is_losing(links, step, word, spare):
    """Whether links, their whole step being this, lead back and weigh below 0 if each of this word weighs spare more.

    The step is None where they are no links, or do not join.
    """
    if step is None:
        return False
    start, goal, weight = step
    return start == goal and weight + len(links_with(links, word)) * spare < 0


def least_distance(book, row):
    """The least distance from a row of any row that fits."""
    check_near(book, row)
    return distance_from(book, row)


def near_row(book, row):
    """The least row that fits at the least distance from a row."""
    check_near(book, row)
    return table_least_row(near_table(book, row, distance_from(book, row)))


def far_paper(book, row):
    """A loop of far links that shows the least distance from a row, None if it is 0."""
    check_near(book, row)
    distance = distance_from(book, row)
    if distance == 0:
        return None
    links = all_links(book) + two_way_links("row", book.cells)
    steps = [marked_step(link, far_step(book, row, link), "row", distance - 1) for link in links]
    return losing_loop(book.cells + 1, steps)


def shows_far(book, row, number, value):
    """Whether a value is a loop of far links that shows a least distance of at least number."""
    check_book(book)
    check_row(book, row)
    check_from_one(number)
    step = whole_step([far_step(book, row, link) for link in value]) if may_be_chain(value) else None
    return is_losing(value, step, "row", number - 1)


def least_off(book):
    """By how many things at least facts must be off, so that some row fits."""
    check_book(book)
    return least_spare(book)


def off_row(book):
    """The least row that fits if all facts may be off by the fewest things with which some row does."""
    check_book(book)
    return table_least_row(off_table(book, least_spare(book)))


def off_paper(book):
    """A loop of links that shows by how many things facts must be off, None if some row fits."""
    check_book(book)
    spare = least_spare(book)
    if spare == 0:
        return None
    steps = [marked_step(link, link_step(book, link), "fact", spare - 1) for link in all_links(book)]
    return losing_loop(book.cells + 1, steps)


def shows_off(book, number, value):
    """Whether a value is a loop of links that shows that facts must be off by at least number things."""
    check_book(book)
    check_from_one(number)
    return is_losing(value, chain_step(book, value), "fact", number - 1)
