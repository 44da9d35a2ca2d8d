"""Looks at any values, and numbers that words write."""

import unittest

from stayhouse.checks import is_amount, is_integer, is_name, is_within
from stayhouse.words import number_of, written

from helpers import ANY, StayTest, is_any_integer, is_any_name


class ChecksTest(StayTest):
    def test_any_values(self):
        for value in ANY:
            with self.subTest(value=value):
                self.assertIs(is_integer(value), type(value) is int)
                self.assertIs(is_amount(value), is_any_integer(value, 0))
                self.assertIs(is_name(value), is_any_name(value))
                for least, most in ((0, 9), (1, 1), (-1, 10 ** 30), (5, 4)):
                    self.assertIs(is_within(value, least, most), is_any_integer(value, least, most))

    def test_integers(self):
        self.assertEqual([is_integer(value) for value in (0, -7, 10 ** 39, True, False, "1", None)],
                         [True, True, True, False, False, False, False])

    def test_amounts(self):
        self.assertEqual([is_amount(value) for value in (0, 1, 10 ** 39, -1, True, False, [0])],
                         [True, True, True, False, False, False, False])

    def test_within(self):
        self.assertEqual([is_within(value, -2, 3) for value in (-3, -2, 0, 3, 4, True)],
                         [False, True, True, True, False, False])

    def test_names(self):
        for name in ("a", "z", "abcdefgh", "sel", "selfs", "selff", "if", "class", "none", "aself"):
            self.assertIs(is_name(name), True)
        for name in ("", "self", "abcdefghi", "A", "a1", "a_b", "a b", " ", "a\n", "\n", "-", "`", "{", "`a", "a{",
                     "@", "[", "x" * 2000):
            self.assertIs(is_name(name), False)


class WordsTest(StayTest):
    def test_any_values(self):
        for value in ANY:
            with self.subTest(value=value):
                if not isinstance(value, str):
                    self.assertIsNone(number_of(value, -10 ** 40, 10 ** 40))

    def test_numbers(self):
        for number in (0, 1, -1, 9, 10, 99, -99, 10 ** 30, -10 ** 39):
            self.same(number_of(str(number), -10 ** 40, 10 ** 40), number)
            self.same(number_of(str(number), number, number), number)
            self.assertIsNone(number_of(str(number), number + 1, number + 9))
            self.assertIsNone(number_of(str(number), number - 9, number - 1))
            self.assertIsNone(number_of(str(number), number + 1, number - 1))

    def test_not_as_written(self):
        for word in ("", "-", "--1", "+1", "-0", "00", "01", "-01", "1 ", " 1", "1\n", "1_0", "1.0", "1e3", "0x1", "a",
                     "1-", "1a", "1,000", "/", ":", "1:", "True", "None"):
            self.assertIsNone(number_of(word, -10 ** 6, 10 ** 6), word)

    def test_long_numbers(self):
        most = 10 ** 1000 - 1
        self.same(number_of("9" * 1000, 0, most), most)
        self.same(number_of("-" + "9" * 1000, -most, most), -most)
        self.assertIsNone(number_of("9" * 1001, 0, most))
        self.assertIsNone(number_of("-" + "9" * 1001, -most, most))
        self.assertIsNone(number_of("1" + "0" * 1000, 0, most))
        self.assertIsNone(number_of("9" * 20001, 0, most))
        self.assertIsNone(number_of("0" * 1000, 0, most))

    def test_written(self):
        for number in (0, 7, 10 ** 64 - 1, 10 ** 64, 10 ** 64 + 1, 10 ** 128, 3 ** 1000):
            self.assertEqual(written(number), str(number))
        # Python itself refuses to write so many figures.
        self.assertEqual(written(10 ** 5000 + 7), "1" + "0" * 4999 + "7")


if __name__ == "__main__":
    unittest.main()
