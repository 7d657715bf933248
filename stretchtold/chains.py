"""Chains: links of cells and facts that show how many things can lie in a stretch."""

from stretchtold.bounding import check_number, fitting_table
from stretchtold.books import check_book, check_stretch
from stretchtold.checks import is_between, is_integer
from stretchtold.errors import BadWord
from stretchtold.tables import cell_weight

MOST_LINKS = 40


def check_word(word):
    if word not in ("greatest", "least"):
        raise BadWord()


def ordered_ends(begin, end, word):
    """The places from which and to which a chain for a word leads."""
    return (begin, end) if word == "greatest" else (end, begin)


def cell_step(book, index, way):
    return (index, index + 1, book.most) if way == 1 else (index + 1, index, 0)


def fact_step(book, index, way):
    begin, end, low, high = book.facts[index]
    return (begin, end, high) if way == 1 else (end, begin, -low)


def is_link(value, word, many):
    """Whether a value is a link of this word, of which there are so many."""
    if not isinstance(value, tuple) or len(value) != 3:
        return False
    its_word, index, way = value
    return its_word == word and is_between(index, 0, many - 1) and is_integer(way) and way in (1, -1)


def link_step(book, link):
    """The tuple (start, goal, weight) of a link, None for any value that is none."""
    if is_link(link, "fact", len(book)):
        return fact_step(book, link[1], link[2])
    if is_link(link, "cell", book.cells):
        return cell_step(book, link[1], link[2])
    return None


def may_be_chain(value):
    """Whether a value is a tuple of as many things as a chain may have links."""
    return isinstance(value, tuple) and is_between(len(value), 1, MOST_LINKS)


def chain_step(book, value):
    """The tuple (start, goal, weight) of a whole chain, None for any value that is none."""
    return whole_step([link_step(book, link) for link in value]) if may_be_chain(value) else None


def whole_step(steps):
    """The tuple (start, goal, weight) of steps one behind the other, None if one is None or they do not join."""
    if None in steps:
        return None
    if any([before[1] != after[0] for before, after in zip(steps, steps[1:])]):
        return None
    return steps[0][0], steps[-1][1], sum([step[2] for step in steps])


def links_with(links, word):
    return [link for link in links if link[0] == word]


def cell_links(start, goal):
    if start < goal:
        return tuple([("cell", index, 1) for index in range(start, goal)])
    return tuple([("cell", index - 1, -1) for index in range(start, goal, -1)])


def joined_links(book, links, start, goal):
    """The chain from start to goal through links of facts, with cells between them."""
    chain = ()
    place = start
    for link in links:
        begin, end, _ = link_step(book, link)
        chain += cell_links(place, begin) + (link,)
        place = end
    return chain + cell_links(place, goal)


def two_way_links(word, many):
    return [(word, index, way) for index in range(many) for way in (1, -1)]


def fact_links(book):
    return two_way_links("fact", len(book))


def next_layer(book, layer):
    """The least ways with one more fact.

    A layer tells for each place at which a link of a fact can end the least weight of
    a way so far, and its links of facts; the cells between them are not written down.
    """
    further = {}
    for link in fact_links(book):
        start, goal, weight = link_step(book, link)
        for place, (before, links) in layer.items():
            total = before + cell_weight(book.most, place, start) + weight
            if goal not in further or total < further[goal][0]:
                further[goal] = (total, links + (link,))
    return further


def least_end(book, layer, goal):
    """The least way of a layer when it is led on to goal by cells: its weight and its links of facts."""
    ends = [(before + cell_weight(book.most, place, goal), links) for place, (before, links) in layer.items()]
    return min(ends, key=lambda way: way[0])


def paper(book, begin, end, word):
    """A chain that shows the greatest or the least number of things in a stretch."""
    check_book(book)
    check_stretch(book, begin, end)
    check_word(word)
    fitting_table(book)
    start, goal = ordered_ends(begin, end, word)
    layer = {start: (0, ())}
    least, links = least_end(book, layer, goal)
    # A least chain that comes to no place twice takes no fact twice. Of equal ones the one
    # with the fewest facts is kept: it comes to no place twice, so its links are few enough.
    for _ in range(len(book)):
        layer = next_layer(book, layer)
        weight, further = least_end(book, layer, goal)
        if weight < least:
            least, links = weight, further
    return joined_links(book, links, start, goal)


def shows(book, begin, end, word, number, value):
    """Whether a value is a chain that shows at most, or at least, number things in a stretch."""
    check_book(book)
    check_stretch(book, begin, end)
    check_word(word)
    check_number(number)
    step = chain_step(book, value)
    if step is None:
        return False
    start, goal, weight = step
    most_weight = number if word == "greatest" else -number
    return (start, goal) == ordered_ends(begin, end, word) and weight <= most_weight


def closed_links(book, links):
    """The chain through links of facts, from the first one's start back to it."""
    start = link_step(book, links[0])[0]
    return joined_links(book, links, start, start)


def clash(book):
    """A chain back to its place with a weight below 0 and the fewest facts, None if some row fits."""
    check_book(book)
    layers = [{place: (0, ())} for place in range(book.cells + 1)]
    for _ in range(len(book)):
        layers = [next_layer(book, layer) for layer in layers]
        for place, layer in enumerate(layers):
            weight, links = least_end(book, layer, place)
            if weight < 0:
                # To start at the first fact leaves out cells to and fro, and is no heavier.
                return closed_links(book, links)
    return None


def is_clash(book, value):
    """Whether a value is a chain back to its place with a weight below 0."""
    check_book(book)
    step = chain_step(book, value)
    if step is None:
        return False
    start, goal, weight = step
    return start == goal and weight < 0


def fewest(book):
    """The number of facts in a clash with the fewest, None if some row fits."""
    found = clash(book)
    return None if found is None else len(links_with(found, "fact"))
