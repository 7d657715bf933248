"""[1]: the error classes, their fields and their places."""

import unittest

from stretchtold import errors

PLAIN = ["BadCells", "BadMost", "BadBook", "BadRow", "NoRow", "BadNumber", "BadStretch", "BadWord",
         "BadRing", "TooMany", "Full", "BadIndex", "NotAlike", "BadRound"]


class ErrorsTest(unittest.TestCase):
    def test_the_base_is_a_value_error(self):
        self.assertEqual(errors.CountError.__bases__, (ValueError,))

    def test_each_is_directly_under_the_base(self):
        for name in PLAIN + ["BadFacts", "BadRests", "InvalidText"]:
            with self.subTest(name):
                self.assertEqual(getattr(errors, name).__bases__, (errors.CountError,))

    def test_those_without_fields_take_nothing(self):
        for name in PLAIN:
            with self.subTest(name):
                self.assertIsInstance(getattr(errors, name)(), errors.CountError)

    def test_indexes(self):
        for index in (None, 0, 11):
            self.assertEqual(errors.BadFacts(index).index, index)
            self.assertEqual(errors.BadRests(index).index, index)

    def test_line_and_word(self):
        wrong = errors.InvalidText(2, 3)
        self.assertEqual((wrong.line, wrong.word), (2, 3))


if __name__ == "__main__":
    unittest.main()
