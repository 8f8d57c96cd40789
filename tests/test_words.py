"""Words, their order, and integers as they are written."""

import unittest

from serialhouse.numerals import figures_of, integer_of
from serialhouse.words import common_beginning, is_ahead, is_letter, is_word
from tests.helper import ANY, words_to


class WordTest(unittest.TestCase):
    def test_is_word(self):
        for thing in ("", "a", "z", "azbycx", "a" * 2000):
            self.assertIs(is_word(thing), True)
        for thing in ("A", "aB", "a1", "1", "a b", " ", "a ", "a\n", "\n", "ab\nc", "a-b", "`", "{", "_", "\u00e9",
                      "\u00aa", "a\u00df"):
            self.assertIs(is_word(thing), False, repr(thing))

    def test_is_word_of_any_value(self):
        for thing in ANY:
            right = isinstance(thing, str) and all(sign in "abcdefghijklmnopqrstuvwxyz" for sign in thing)
            self.assertIs(is_word(thing), right)
        for thing in (("a",), ["a"], {"a": "a"}, 7, None, True, b"a"):
            self.assertIs(is_word(thing), False)

    def test_is_letter(self):
        for thing in ANY:
            self.assertIs(is_letter(thing), thing in ("a", "b") if isinstance(thing, str) else False)

    def test_is_ahead(self):
        words = words_to("abz", 3)
        for at, one in enumerate(words):
            for place, other in enumerate(words):
                self.assertIs(is_ahead(one, other), at < place)
        self.assertIs(is_ahead("b" * 119, "a" * 120), True)
        self.assertIs(is_ahead("a" * 120, "a" * 119 + "b"), True)

    def test_common_beginning(self):
        told = (("", "", ""), ("", "a", ""), ("a", "", ""), ("a", "b", ""), ("ab", "ab", "ab"), ("ab", "abc", "ab"),
                ("abc", "ab", "ab"), ("abc", "abd", "ab"), ("bab", "aab", ""), ("aba", "aca", "a"),
                ("a" * 120, "a" * 119 + "b", "a" * 119), ("x" * 60, "x" * 120, "x" * 60))
        for one, other, right in told:
            self.assertEqual(common_beginning(one, other), right)

    def test_by_name(self):
        self.assertIs(is_word(thing="ab"), True)
        self.assertIs(is_ahead(one="b", other="aa"), True)
        self.assertIs(is_ahead(other="b", one="aa"), False)
        self.assertEqual(common_beginning(one="abc", other="abd"), "ab")


class NumeralTest(unittest.TestCase):
    def test_there_and_back(self):
        for number in (0, 1, 9, 10, 10 ** 63, 10 ** 64 - 1, 10 ** 64, 10 ** 64 + 7, 10 ** 128, 3 ** 300):
            self.assertEqual(figures_of(number), str(number))
            self.assertEqual(integer_of(str(number)), number)

    def test_longer_than_python_writes_at_once(self):
        number = 10 ** 5000 + 12
        self.assertEqual(figures_of(number), "1" + "0" * 4998 + "12")
        self.assertEqual(integer_of(figures_of(number)), number)

    def test_what_is_no_integer(self):
        for text in ("", "00", "01", "-1", "+1", " 1", "1 ", "1_0", "0x1", "a", "1.", "\u00b2", "\u0663", "-0"):
            self.assertIsNone(integer_of(text), repr(text))
