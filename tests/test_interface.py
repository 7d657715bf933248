"""The interface: each name stands in its file, with the arguments that the document lists, and in its class itself."""

import importlib
import inspect
import unittest

from tests.test_errors import PLAIN

FUNCTIONS = {
    "books": ["broken(book, row)"],
    "bounding": ["is_possible(book)", "least_row(book)", "bounds(book, begin, end)",
                 "row_with(book, begin, end, number)", "sure_cells(book)", "needless(book)"],
    "chains": ["paper(book, begin, end, word)", "shows(book, begin, end, word, number, value)", "is_clash(book, value)",
               "clash(book)", "fewest(book)"],
    "rings": ["ring_totals(ring)", "ring_bounds(ring, begin, end)", "ring_row(ring)"],
    "small": ["rows(book, rests)", "fewest_off(book)", "nearest(book, rests, row)", "next_stretch(book, rests)",
              "fewest_stretches(book, rests)"],
    "two": ["within(one, other)", "alike(one, other)", "first_unlike(one, other)", "closed(book)",
            "smallest_kept(book)"],
    "ahead": ["fewest_ahead(book)", "most_ahead(book)", "mixed(book, one, other)"],
    "near": ["least_distance(book, row)", "least_off(book)", "near_row(book, row)", "off_row(book)",
             "far_paper(book, row)", "off_paper(book)", "shows_far(book, row, number, value)",
             "shows_off(book, number, value)"],
    "rounds": ["round_totals(great)", "round_bounds(great, begin, end)", "round_with(great, total)"],
    "texts": ["write_book(book)", "read_book(text)"],
}

LIKE_BOOKS = ["__init__(self, cells, most, facts)", "__len__(self)", "__eq__(self, other)"]

METHODS = {
    ("books", "Book"): LIKE_BOOKS,
    ("rings", "Ring"): LIKE_BOOKS,
    ("rounds", "Round"): LIKE_BOOKS,
    ("desks", "Desk"): ["__init__(self, cells, most)", "tell(self, begin, end, low, high)", "take(self, index)",
                        "undo(self)", "copy(self)", "__len__(self)"],
}

PROPERTIES = {
    ("books", "Book"): ["cells", "most", "facts"],
    ("rings", "Ring"): ["cells", "most", "facts"],
    ("rounds", "Round"): ["cells", "most", "facts"],
    ("desks", "Desk"): ["book"],
}


def module(name):
    return importlib.import_module("stretchtold." + name)


def taken(told):
    return told.partition("(")[0]


class InterfaceTest(unittest.TestCase):
    def test_functions(self):
        for name, functions in FUNCTIONS.items():
            for told in functions:
                with self.subTest(told):
                    found = vars(module(name))[taken(told)]
                    self.assertEqual(found.__module__, "stretchtold." + name)
                    self.assertEqual(taken(told) + str(inspect.signature(found)), told)

    def test_classes(self):
        for (name, kind), methods in METHODS.items():
            found = vars(module(name))[kind]
            self.assertEqual([found.__module__, found.__bases__], ["stretchtold." + name, (object,)])
            for told in methods:
                with self.subTest(kind=kind, told=told):
                    self.assertEqual(taken(told) + str(inspect.signature(vars(found)[taken(told)])), told)

    def test_properties(self):
        for (name, kind), properties in PROPERTIES.items():
            for told in properties:
                with self.subTest(kind=kind, told=told):
                    self.assertIsInstance(vars(vars(module(name))[kind])[told], property)

    def test_errors(self):
        errors = vars(module("errors"))
        for name in PLAIN + ["CountError", "BadFacts", "BadRests", "InvalidText"]:
            self.assertEqual(errors[name].__module__, "stretchtold.errors")
        for name, fields in (("BadFacts", "(index)"), ("BadRests", "(index)"), ("InvalidText", "(line, word)")):
            self.assertEqual(str(inspect.signature(errors[name])), fields)


if __name__ == "__main__":
    unittest.main()
