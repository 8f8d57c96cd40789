"""Words drawn by tosses, against the words of a length gone through."""

import itertools
import unittest
from fractions import Fraction

from serialhouse.drawing import draw_by_letters, draw_word, letter_mean, word_mean
from serialhouse.errors import NoWords
from serialhouse.formats import Format
from serialhouse.tosses import draw, draw_by, mean, mean_by
from tests.helper import AA, DEAD, EMPTY, FORMS, NOAA, NONE, ONES, some_formats, words_of


def forms():
    return list(FORMS) + some_formats(25, 371)


def all_tosses(most):
    return ["".join(signs) for many in range(most + 1) for signs in itertools.product("01", repeat=many)]


def by_length(form, length):
    return [word for word in words_of(form, form.letters, length) if len(word) == length]


def told_by_letters(words, letters, tosses):
    """What letter by letter draws, by the words of the length."""
    begun = ""
    used = 0
    while len(begun) < len(words[0]):
        weights = [len([word for word in words if word.startswith(begun + letter)]) for letter in letters]
        drawn = draw_by(tuple(weights), tosses[used:])
        if drawn[0] == "open":
            return ("open", begun) + drawn[1:]
        begun += letters[drawn[1]]
        used += drawn[2]
    return "drawn", begun, used


class DrawTest(unittest.TestCase):
    def test_in_one_go(self):
        for form in forms():
            for length in range(5):
                words = by_length(form, length)
                if not words:
                    continue
                self.assertEqual(word_mean(form, length), mean(len(words)))
                for tosses in all_tosses(5):
                    told = draw(len(words), tosses)
                    if told[0] == "drawn":
                        told = ("drawn", words[told[1]], told[2])
                    self.assertEqual(draw_word(form, length, tosses), told)

    def test_letter_by_letter(self):
        for form in forms():
            for length in range(5):
                words = by_length(form, length)
                if not words:
                    continue
                for tosses in all_tosses(5):
                    self.assertEqual(draw_by_letters(form, length, tosses), told_by_letters(words, form.letters, tosses))
                total = Fraction(0)
                for begun in {word[:many] for word in words for many in range(length)}:
                    with_it = [word for word in words if word.startswith(begun)]
                    weights = tuple(len([word for word in with_it if word.startswith(begun + letter)])
                                    for letter in form.letters)
                    total += Fraction(len(with_it), len(words)) * Fraction(*mean_by(weights))
                self.assertEqual(letter_mean(form, length), (total.numerator, total.denominator))
                self.assertGreaterEqual(total, Fraction(*word_mean(form, length)))

    def test_no_words(self):
        for form, length in ((NONE, 0), (NONE, 3), (EMPTY, 1), (AA, 1), (AA, 3), (DEAD, 0)):
            for call in (draw_word, draw_by_letters):
                for tosses in ("", "0101"):
                    with self.assertRaises(NoWords) as caught:
                        call(form, length, tosses)
                    self.assertEqual(caught.exception.length, length)
            for call in (word_mean, letter_mean):
                with self.assertRaises(NoWords) as caught:
                    call(form, length)
                self.assertEqual(caught.exception.length, length)

    def test_words_of_no_letters(self):
        for form in (EMPTY, NOAA, ONES):
            for tosses in ("", "1", "0110"):
                self.assertEqual(draw_word(form, 0, tosses), ("drawn", "", 0))
                self.assertEqual(draw_by_letters(form, 0, tosses), ("drawn", "", 0))
            self.assertEqual(word_mean(form, 0), (0, 1))
            self.assertEqual(letter_mean(form, 0), (0, 1))

    def test_letters_without_a_toss(self):
        self.assertEqual(draw_by_letters(ONES, 50, ""), ("drawn", "a" * 50, 0))
        self.assertEqual(draw_by_letters(AA, 2, "1"), ("drawn", "aa", 0))
        form = Format(6, ((0, "a", 1), (0, "b", 5), (1, "a", 2), (1, "b", 2), (2, "c", 3), (3, "a", 4), (3, "b", 4)), (4,))
        self.assertEqual(draw_by_letters(form, 4, ""), ("open", "a", 1, 0))
        self.assertEqual(draw_by_letters(form, 4, "1"), ("open", "abc", 1, 0))
        self.assertEqual(draw_by_letters(form, 4, "101"), ("drawn", "abca", 2))
        last = Format(4, ((0, "a", 1), (0, "b", 1), (1, "c", 2), (2, "d", 3)), (3,))
        self.assertEqual(draw_by_letters(last, 3, "1"), ("drawn", "bcd", 1))

    def test_many_words(self):
        letters = Format(1, tuple((0, letter, 0) for letter in "abcd"), (0,))
        kind, word, used = draw_word(letters, 90, "01" * 90)
        self.assertEqual((kind, word, used), ("drawn", "b" * 90, 180))
        self.assertEqual(draw_word(letters, 90, "01" * 89), ("open", 2 ** 178, int("01" * 89, 2)))
        self.assertEqual(draw_by_letters(letters, 4, "00011011"), ("drawn", "abcd", 8))

    def test_means_by_hand(self):
        self.assertEqual(word_mean(NOAA, 3), (18, 5))
        # A first letter by 2 and 3; behind a then b, and two words; behind b by 1 and 2, and two words behind b.
        told = Fraction(*mean_by((2, 3))) + Fraction(2, 5) * 1 + Fraction(3, 5) * (Fraction(*mean_by((1, 2))) +
                                                                                  Fraction(2, 3) * 1)
        self.assertEqual(letter_mean(NOAA, 3), (told.numerator, told.denominator))
        self.assertEqual(letter_mean(ONES, 300), (0, 1))
