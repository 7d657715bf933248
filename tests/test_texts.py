"""[12]: books written as texts, and read from them."""

import unittest
from functools import lru_cache
from itertools import product
from random import Random

from stretchtold.books import Book
from stretchtold.errors import BadBook, CountError, InvalidText
from stretchtold.texts import read_book, write_book
from tests.looking import GREAT, NO_BOOKS, great_books, possible_books, small_books, tiny_books

TOLD = Book(4, 3, ((0, 2, 4, 4), (1, 3, 0, 2)))
TEXT = "cells 4 3\nfact 0 2 4 4\nfact 1 3 0 2"
ALL_FIGURES = "9" * 33


class WriteTest(unittest.TestCase):
    def test_example(self):
        self.assertEqual(write_book(TOLD).split("\n"), ["cells 4 3", "fact 0 2 4 4", "fact 1 3 0 2"])
        self.assertEqual(write_book(TOLD), TEXT)

    def test_edges(self):
        self.assertEqual(write_book(Book(1, 0, ())), "cells 1 0")
        self.assertEqual(write_book(Book(20, GREAT, ((0, 20, 10 ** 32, 10 ** 32),) * 12)).split("\n"),
                         ["cells 20 1" + "0" * 30] + ["fact 0 20 1" + "0" * 32 + " 1" + "0" * 32] * 12)

    def test_no_book(self):
        for book in NO_BOOKS:
            with self.subTest(book=book):
                self.assertRaises(BadBook, write_book, book)


class ReadTest(unittest.TestCase):
    def test_what_was_written(self):
        books = small_books(111, 100) + possible_books(112, 100) + tiny_books()
        books += [book for book, _ in great_books(113, 20)]
        books += [Book(1, 0, ()), Book(20, GREAT, ((19, 20, 0, 10 ** 32),) * 12)]
        for book in books:
            self.assertEqual(read_book(write_book(book)), book)

    def test_spaces(self):
        for text in ("  cells 4 3  \n fact 0 2 4 4\nfact 1 3 0 2   ",
                     "cells    4  3\nfact 0  2   4 4 \n  fact  1 3  0 2"):
            self.assertEqual(read_book(text), TOLD)

    def test_a_book_that_no_row_fits(self):
        self.assertEqual(read_book("cells 1 0\nfact 0 1 1 1"), Book(1, 0, ((0, 1, 1, 1),)))

    def test_only_the_least_and_greatest_numbers(self):
        limit = "1" + "0" * 32
        self.assertEqual(read_book(f"cells 20 {GREAT}\nfact 19 20 {limit} {limit}\nfact 0 1 0 0"),
                         Book(20, GREAT, ((19, 20, 10 ** 32, 10 ** 32), (0, 1, 0, 0))))


class InvalidTest(unittest.TestCase):
    def assert_invalid(self, text, line, word):
        with self.subTest(text=text), self.assertRaises(InvalidText) as caught:
            read_book(text)
        self.assertEqual((caught.exception.line, caught.exception.word), (line, word))
        self.assertEqual([type(caught.exception.line), type(caught.exception.word)], [int, int])

    def assert_no_fact(self, line, word):
        for before in ("cells 4 3\n", "cells 4 3\nfact 0 4 0 12\n", "cells 4 3\n" + "fact 3 4 0 0\n" * 11):
            self.assert_invalid(before + line, before.count("\n") + 1, word)
            self.assert_invalid(before + line + "\nfact", before.count("\n") + 1, word)

    def test_example(self):
        self.assert_invalid("cells 4 3\nfact 2 2 0 1", 2, 3)

    def test_empty_texts(self):
        for text in ("", " ", "    ", "\n", "\ncells 4 3", "  \ncells 4 3"):
            self.assert_invalid(text, 1, 1)

    def test_texts_that_end_too_early(self):
        for text, word in (("cells", 2), ("cells 4", 3), (" cells  4  ", 3), ("cells\nfact 0 1 0 1", 2)):
            self.assert_invalid(text, 1, word)
        for line, word in (("fact", 2), ("fact 0", 3), ("fact 0 1", 4), ("fact 0 1 0", 5), ("  fact  0 1  0   ", 5)):
            self.assert_no_fact(line, word)

    def test_lines_without_words(self):
        for text, line in (("cells 4 3\n", 2), ("cells 4 3\n   ", 2), ("cells 4 3\n\nfact 0 1 0 1", 2),
                           (TEXT + "\n", 4), (TEXT + "\n\n", 4), ("cells 4 3\nfact 0 1 0 1\n \nfact", 3)):
            self.assert_invalid(text, line, 1)

    def test_a_thirteenth_fact(self):
        twelve = "cells 4 3" + "\nfact 0 1 0 1" * 12
        self.assertEqual(len(read_book(twelve)), 12)
        for line in ("fact 0 1 0 1", "fact", "", "  ", "cells 4 3", "fact 9 9 9 9"):
            self.assert_invalid(twelve + "\n" + line, 14, 1)
            self.assert_invalid(twelve + "\n" + line + "\nfact 0 1 0 1", 14, 1)

    def test_wrong_first_words(self):
        for word in ("Cells", "CELLS", "cell", "cellss", "fact", "4", "cells4", "\tcells", "cells\t", "cells\r", "-"):
            self.assert_invalid(word + " 4 3", 1, 1)
        for word in ("Fact", "FACT", "facts", "fac", "cells", "0", "\tfact", "fact\t", "fact\x0b", "\u00a0fact"):
            self.assert_no_fact(word + " 0 1 0 1", 1)

    def test_only_spaces_part_words(self):
        self.assert_invalid("cells\t4\t3", 1, 1)
        self.assert_invalid("cells 4\t3", 1, 2)
        self.assert_invalid("cells 4 3\t", 1, 3)
        self.assert_invalid("cells 4 3 \t", 1, 4)
        self.assert_invalid("cells 4 3\r\nfact 0 1 0 1", 1, 3)
        self.assert_invalid("cells 4 3\rfact 0 1 0 1", 1, 3)
        self.assert_invalid("cells 4 3\x0c", 1, 3)
        self.assert_invalid("cells 4\u00a03", 1, 2)
        self.assert_no_fact("fact 0 1 0\u20071", 4)
        self.assert_no_fact("fact 0 1 0 1\u2028fact 0 1 0 1", 5)

    def test_numbers_not_as_python_writes_them(self):
        for number in ("+3", "-3", "-0", "03", "00", "3.0", "3.", "3e0", "0x3", "1_0", "\u0663", "\u00b3", "\uff13",
                       "three", "None", "True", "(3)", "3,", "\ud800", "0" * 40 + "3", "3" * 5000, "9" * 10 ** 5):
            self.assert_invalid(f"cells {number} 3", 1, 2)
            self.assert_invalid(f"cells 4 {number}", 1, 3)
            for place in range(4):
                words = ["0", "4", "0", "9"]
                words[place] = number
                self.assert_no_fact(" ".join(["fact"] + words), place + 2)

    def test_numbers_beyond_their_limits(self):
        beyond = str(10 ** 32 + 1)
        for number in ("0", "-1", "21", beyond):
            self.assert_invalid(f"cells {number} 3", 1, 2)
        for number in ("-1", str(GREAT + 1), beyond, ALL_FIGURES):
            self.assert_invalid(f"cells 4 {number}", 1, 3)
        for line, word in (("4 5 0 1", 2), ("4", 2), ("5 6 0 1", 2), ("-1 1 0 1", 2), (f"{beyond} 1 0 1", 2),
                           ("0 0 0 1", 3), ("0 5 0 1", 3), ("3 3 0 1", 3), ("3 2", 3), ("2 -1 0 1", 3),
                           (f"0 1 {beyond} {beyond}", 4), (f"0 1 {ALL_FIGURES} 1", 4), ("0 1 -1 1", 4),
                           ("0 1 2 1", 5), ("0 1 1 0", 5), (f"0 1 0 {beyond}", 5), ("0 1 0 -1", 5)):
            self.assert_no_fact("fact " + line, word)

    def test_too_many_words(self):
        self.assert_invalid("cells 4 3 3", 1, 4)
        self.assert_invalid("cells 4 3 fact 0 1 0 1", 1, 4)
        self.assert_invalid("cells  4 3  x y z", 1, 4)
        self.assert_no_fact("fact 0 1 0 1 1", 6)
        self.assert_no_fact("fact 0 1 0 1 fact 0 1 0 1", 6)

    def test_the_first_line_and_its_first_word_count(self):
        self.assert_invalid("cells 4 3\nfact 0 x y 1\nfact x", 2, 3)
        self.assert_invalid("cells 4 3\nfact 0 1 0 1\nfact 9 1 0 1 7 7\n", 3, 2)
        self.assert_invalid("cell 0 x", 1, 1)
        self.assert_invalid("cells 0 x y", 1, 2)
        self.assert_invalid("cells 3\nfact 2 4 0 1", 1, 3)

    def test_the_cells_of_the_text_limit_places(self):
        self.assertEqual(read_book("cells 20 3\nfact 4 5 0 1").facts, ((4, 5, 0, 1),))
        self.assert_invalid("cells 1 3\nfact 1 2 0 1", 2, 2)
        self.assert_invalid("cells 1 3\nfact 0 2 0 1", 2, 3)


@lru_cache(maxsize=None)
def is_line(words, cells):
    """Whether words are the whole of a line, the first one if cells is None."""
    numbers = [int(word) if word.isdigit() else -1 for word in words[1:]]
    if [str(number) for number in numbers] != list(words[1:]):
        return False
    try:
        if cells is None:
            return words[0] == "cells" and len(numbers) == 2 and bool(Book(*numbers, ()).cells)
        return words[0] == "fact" and len(Book(cells, 0, (tuple(numbers),))) == 1
    except CountError:
        return False


@lru_cache(maxsize=None)
def can_be_led_on(words, cells):
    """Whether some line begins with these words."""
    pool = ["0", "1", "2", "3", "4", str(10 ** 32)]
    missing = (3 if cells is None else 5) - len(words)
    if not words or missing < 0:
        return not words
    return any(is_line(words + rest, cells) for rest in product(pool, repeat=missing))


def first_wrong(text):
    """The line and the word that a text must be refused by, by looking at all ends of lines; None for neither."""
    cells = None
    for at, line in enumerate(text.split("\n"), start=1):
        words = tuple([word for word in line.split(" ") if word != ""])
        if at == 14:
            return at, 1
        for many in range(1, len(words) + 1):
            if not can_be_led_on(words[:many], cells):
                return at, many
        if not words or not is_line(words, cells):
            return at, len(words) + 1
        cells = int(words[1]) if cells is None else cells
    return None


class ManyTextsTest(unittest.TestCase):
    WORDS = ["cells", "fact", "0", "1", "2", "3", "4", "5", "00", "-1", "x", str(10 ** 32), str(10 ** 32 + 1),
             "", "", "\n"]

    def changed(self, random, text):
        words = text.replace("\n", " \n ").split(" ")
        for _ in range(random.randint(0, 2)):
            at, kind = random.randrange(len(words)), random.randrange(3)
            words[at:at + (kind > 0)] = [] if kind == 1 else [random.choice(self.WORDS)]
            words = words or [""]
        return " ".join(words)

    def test_changed_texts(self):
        random, found = Random(114), {(14, 1): 0}
        for _ in range(4000):
            cells = random.randint(1, 4)
            lines = [f"cells {cells} {random.randint(0, 3)}"]
            for _ in range(random.choice([0, 1, 2, 3, 12, 13])):
                begin = random.randrange(cells)
                end, low, high = random.randint(begin + 1, cells), random.randint(0, 2), random.randint(2, 4)
                lines.append(f"fact {begin} {end} {low} {high}")
            text = self.changed(random, "\n".join(lines))
            wrong = first_wrong(text)
            found[wrong] = found.get(wrong, 0) + 1
            if wrong is None:
                tidy = "\n".join([" ".join([word for word in line.split(" ") if word]) for line in text.split("\n")])
                self.assertEqual(write_book(read_book(text)), tidy)
            else:
                with self.subTest(text=text), self.assertRaises(InvalidText) as caught:
                    read_book(text)
                self.assertEqual((caught.exception.line, caught.exception.word), wrong)
        self.assertGreater(found[None], 500)
        self.assertGreater(len(found), 30)
        self.assertGreater(found[14, 1], 50)


if __name__ == "__main__":
    unittest.main()
