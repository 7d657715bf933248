"""Tables of least weights.

In a table, table[start][goal] is the least weight of a chain from the place start
to the place goal: by at most so much do the things ahead of goal exceed those ahead
of start. All rows that fit are told by the table alone, and each of its numbers is
reached by one of them, so equal tables stand for the same rows.
"""


def cell_weight(most, start, goal):
    """The least weight of a chain of cells alone."""
    return most * (goal - start) if start < goal else 0


def cell_table(cells, most):
    places = range(cells + 1)
    return [[cell_weight(most, start, goal) for goal in places] for start in places]


def with_step(table, start, goal, weight):
    """The table with one more step from start to goal, None if no row fits then."""
    behind = table[goal]
    if behind[start] + weight < 0:
        return None
    if table[start][goal] <= weight:
        # Going through lots of facts, most steps tell nothing new: no second table is needed for them.
        return table
    # One pass is enough: no way round is below 0, so no least chain takes the step twice.
    return [[min(known, line[start] + weight + more) for known, more in zip(line, behind)]
            for line in table]


def with_fact(table, fact):
    """The table with one more fact, None if no row fits then."""
    begin, end, low, high = fact
    nearer = with_step(table, begin, end, high)
    return None if nearer is None else with_step(nearer, end, begin, -low)


def told_table(cells, most, facts):
    """The table of all that is told, None if no row fits."""
    table = cell_table(cells, most)
    for fact in facts:
        table = with_fact(table, fact)
        if table is None:
            return None
    return table


def table_bounds(table, begin, end):
    """The least and the greatest number of things between two places."""
    return -table[end][begin], table[begin][end]


def row_of(ahead):
    """The row that has these numbers of things ahead of its places."""
    return tuple([after - before for before, after in zip(ahead, ahead[1:])])


def table_least_row(table):
    """The least row of a table.

    The places can have their least numbers of things ahead all at once, and the row
    that has them is the least one, too: it is so at the first cell, and then on.
    """
    return row_of([-line[0] for line in table])


def table_most_row(table):
    """The row of a table that has the greatest numbers of things ahead of all its places."""
    return row_of(table[0])
