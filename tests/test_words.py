"""Words, dates and integers."""

import unittest

from standinparts.words import is_date, is_integer, is_word
from tests.odd import all_odd_values, odd_values


class WordsTest(unittest.TestCase):
    def test_words(self):
        for value in ["a", "z", "bolt", "abcdefgh", "zzzzzzzz"]:
            self.assertIs(is_word(value), True)

    def test_no_words(self):
        wrong = ["abcdefghi", "aB", "a1", "a-b", " a", "a\n", "\u00e9", "\u00df", "`", "{", "\u0430", "a\u0301"]
        for value in all_odd_values() + wrong + [5, ["a"], ("a",), {"a": 1}, b"a"]:
            self.assertIs(is_word(value), False)

    def test_dates(self):
        for value in [0, 1, 9998, 9999]:
            self.assertIs(is_date(value), True)

    def test_no_dates(self):
        for value in odd_values() + [-1, 10000, 10 ** 30, "5", [5], (5,), 5.0]:
            self.assertIs(is_date(value), False)

    def test_integers(self):
        for value, lowest, highest in [(3, 3, 3), (3, 0, 5), (0, 0, 5), (5, 0, 5), (-4, -4, -2),
                                       (10 ** 30, 0, 10 ** 30)]:
            self.assertIs(is_integer(value, lowest, highest), True)

    def test_no_integers(self):
        for value in odd_values() + [-1, 6, "3", [3], (3,), 3.0]:
            self.assertIs(is_integer(value, 0, 5), False)
        self.assertIs(is_integer(True, 0, 5), False)
        self.assertIs(is_integer(False, 0, 5), False)
        self.assertIs(is_integer(3, 5, 0), False)
        self.assertIs(is_integer(10 ** 30 + 1, 0, 10 ** 30), False)

    def test_arguments_by_name(self):
        self.assertIs(is_word(value="bolt"), True)
        self.assertIs(is_date(value=9999), True)
        self.assertIs(is_integer(highest=5, lowest=4, value=4), True)
        self.assertIs(is_integer(highest=4, lowest=5, value=4), False)


if __name__ == "__main__":
    unittest.main()
