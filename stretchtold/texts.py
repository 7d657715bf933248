"""Texts: books written as lines of words, and read from them."""

from stretchtold.books import GREATEST_MOST, GREATEST_TOLD, MOST_CELLS, MOST_FACTS, Book, check_book
from stretchtold.errors import InvalidText

MOST_FIGURES = 33


def line_of(word, numbers):
    return " ".join([word] + [str(number) for number in numbers])


def write_book(book):
    """The text of a book."""
    check_book(book)
    return "\n".join([line_of("cells", (book.cells, book.most))] + [line_of("fact", fact) for fact in book.facts])


def words_of(line):
    # Only spaces part words: split() would take tabs and other signs, too.
    return [word for word in line.split(" ") if word]


def number_of(word):
    """The number that a word tells, None if Python writes no number of so few figures like this."""
    # Python itself reads no endless numbers, so the length is looked at first.
    if len(word) > MOST_FIGURES or not word.isascii() or not word.isdigit():
        return None
    number = int(word)
    return number if str(number) == word else None


def cells_limits(numbers):
    """The least and the greatest number that may stand behind these ones in the first line."""
    return (0, GREATEST_MOST) if numbers else (1, MOST_CELLS)


def fact_limits(numbers, cells):
    """The least and the greatest number that may stand behind these ones in the line of a fact."""
    if not numbers:
        return 0, cells - 1
    if len(numbers) == 1:
        return numbers[0] + 1, cells
    return (0 if len(numbers) == 2 else numbers[2]), GREATEST_TOLD


def numbers_read(words, at, head, many, limits):
    """The numbers behind the first of the words of a line.

    The line is the one at which is counted, head its first word, and many the numbers
    behind it; limits tells, for those ahead of a number, between which ones it may be.
    """
    if words[:1] != [head]:
        raise InvalidText(at, 1)
    numbers = []
    for word in words[1:many + 1]:
        low, high = limits(numbers)
        number = number_of(word)
        if number is None or not low <= number <= high:
            raise InvalidText(at, len(numbers) + 2)
        numbers.append(number)
    if len(words) != many + 1:
        # Behind all words if some are missing, otherwise at the first one that is too many.
        raise InvalidText(at, len(numbers) + 2)
    return tuple(numbers)


def read_book(text):
    """The book of a text."""
    lines = [words_of(line) for line in text.split("\n")]
    cells, most = numbers_read(lines[0], 1, "cells", 2, cells_limits)
    facts = ()
    for at, words in enumerate(lines[1:], start=2):
        if len(facts) == MOST_FACTS:
            raise InvalidText(at, 1)
        facts += (numbers_read(words, at, "fact", 4, lambda numbers: fact_limits(numbers, cells)),)
    return Book(cells, most, facts)
