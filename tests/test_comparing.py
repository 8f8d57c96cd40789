"""Formats compared, against the words gone through one by one."""

import itertools
import unittest

from serialhouse.comparing import first_apart, first_word, is_same, is_within
from serialhouse.formats import Format
from serialhouse.joining import again, both, either, without
from serialhouse.leastforms import least_form
from tests.helper import DEAD, EMPTY, EVEN, FORMS, NOAA, NONE, ONES, letters_in, some_formats, words_of, words_to

PAIRS = list(itertools.product(FORMS, FORMS)) + list(zip(some_formats(200, 21, size=3), some_formats(200, 22, size=3)))


def first_of(words):
    return min(words, key=lambda word: (len(word), word), default=None)


class CompareTest(unittest.TestCase):
    def test_examples(self):
        self.assertEqual(first_apart(NOAA, again(Format(2, ((0, "b", 1),), (1,)))), "a")
        self.assertEqual(first_word(NOAA), "")

    def test_against_words(self):
        for one, other in PAIRS:
            letters = letters_in(one, other)
            # Two formats without a difference in words of fewer letters than both have states have none.
            most = one.size + other.size - 1 if len(letters) < 3 else 4
            mine, yours = set(words_of(one, letters, most)), set(words_of(other, letters, most))
            word = first_of(mine ^ yours)
            self.assertEqual(first_apart(one, other), word)
            self.assertIs(is_same(one, other), word is None)
            self.assertIs(is_within(one, other), mine <= yours)
            self.assertEqual(first_word(one), first_of(mine))

    def test_other_states(self):
        for form in some_formats(100, 23) + list(FORMS):
            made = least_form(form)
            self.assertIs(is_same(form, made), True)
            self.assertIs(is_same(made, form), True)
            self.assertIsNone(first_apart(form, made))
            self.assertIs(is_within(form, made), True)
            self.assertEqual(first_word(form), first_word(made))

    def test_one_move_or_end_otherwise(self):
        for form in some_formats(40, 24, size=3):
            others = [Format(form.size, form.moves[:at] + form.moves[at + 1:], form.ends)
                      for at, _ in enumerate(form.moves)]
            others += [Format(form.size, form.moves, form.ends[:at] + form.ends[at + 1:])
                       for at, _ in enumerate(form.ends)]
            for other in others:
                right = first_of(set(words_of(form, "ab", 5)) ^ set(words_of(other, "ab", 5)))
                self.assertEqual(first_apart(form, other), right)
                self.assertEqual(first_apart(other, form), right)

    def test_without_words(self):
        self.assertIsNone(first_word(NONE))
        self.assertIsNone(first_word(Format(2, ((0, "a", 0), (1, "a", 1)), (1,))))
        self.assertEqual(first_word(EMPTY), "")
        self.assertIs(is_within(NONE, NONE), True)
        self.assertIs(is_within(NONE, NOAA), True)
        self.assertIs(is_within(Format(2, ((0, "z", 1),), ()), NOAA), True)
        self.assertIs(is_within(NOAA, NONE), False)
        self.assertEqual(first_apart(NONE, EMPTY), "")
        self.assertEqual(first_apart(NONE, DEAD), "a")

    def test_the_first_word_in_order(self):
        form = Format(5, ((0, "a", 1), (0, "b", 2), (1, "b", 4), (2, "a", 4), (4, "a", 3)), (3,))
        self.assertEqual(first_word(form), "aba")
        self.assertEqual(first_apart(form, NONE), "aba")
        self.assertEqual(first_apart(EVEN, ONES), "a")
        one = Format(3, ((0, "a", 1), (0, "b", 1), (1, "b", 2)), (2,))
        other = Format(3, ((0, "a", 1), (0, "b", 1), (1, "b", 2), (1, "c", 2)), (2,))
        self.assertEqual(first_apart(one, other), "ac")

    def test_far_words_apart(self):
        sixes = Format(6, tuple((state, "a", (state + 1) % 6) for state in range(6)), (5,))
        fives = Format(5, tuple((state, "a", (state + 1) % 5) for state in range(5)), (4,))
        self.assertEqual(first_word(both(sixes, fives)), "a" * 29)
        self.assertEqual(first_apart(either(sixes, fives), without(either(sixes, fives), both(sixes, fives))), "a" * 29)

    def test_is_within_by_both(self):
        for one, other in zip(some_formats(80, 25), some_formats(80, 26)):
            self.assertIs(is_within(one, other), both(one, other) == least_form(one))
            self.assertIs(is_within(both(one, other), one), True)
            self.assertIs(is_within(one, either(other, one)), True)

    def test_many_states(self):
        many = 4000
        moves = tuple((state, letter, (state + 1) % many) for state in range(many) for letter in "ab")
        one, other = Format(many, moves, (0, many - 1)), Format(many, moves, (0,))
        self.assertEqual(first_apart(one, other), "a" * (many - 1))
        self.assertIs(is_within(other, one), True)
        self.assertIs(is_within(one, other), False)

    def test_by_name(self):
        self.assertIs(is_same(one=NOAA, other=NOAA), True)
        self.assertEqual(first_apart(one=NOAA, other=NONE), "")
        self.assertIs(is_within(one=NONE, other=NOAA), True)
        self.assertIs(is_within(other=NONE, one=NOAA), False)
        self.assertEqual(first_word(form=DEAD), "a")
        self.assertEqual(words_to("a", 1), ["", "a"])
