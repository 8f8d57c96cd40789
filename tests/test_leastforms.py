"""Least formats of formats and of sheets."""

import unittest

from serialhouse.formats import Format
from serialhouse.leastforms import format_of, least_form
from serialhouse.sheets import Sheet
from tests.helper import DEAD, EMPTY, FORMS, LAST, NOAA, NONE, is_least, some_formats, some_sheets, words_of


class LeastTest(unittest.TestCase):
    def test_examples(self):
        form = Format(3, ((0, "a", 1), (0, "b", 2), (1, "a", 1), (2, "a", 2)), (1, 2))
        self.assertEqual(least_form(form), Format(2, ((0, "a", 1), (0, "b", 1), (1, "a", 1)), (1,)))
        right = Format(2, ((0, "a", 1), (0, "b", 0), (1, "a", 1), (1, "b", 0)), (1,))
        self.assertEqual(format_of(LAST), right)

    def test_without_words(self):
        for form in (NONE, Format(3, ((0, "a", 1), (1, "b", 0)), ()), Format(2, ((1, "a", 1),), (1,))):
            self.assertEqual(least_form(form), Format(1, (), ()))
            self.assertEqual(format_of(form.sheet), Format(1, (), ()))
        self.assertEqual(format_of(Sheet(1, ((0, "a", 0),), ())), NONE)
        self.assertEqual(least_form(Format(2, ((0, "a", 1),), (0,))), EMPTY)

    def test_states_that_are_not_useful(self):
        self.assertEqual(least_form(DEAD), Format(2, ((0, "a", 1), (1, "a", 1)), (1,)))

    def test_numbering_by_first_words(self):
        form = Format(4, ((0, "a", 3), (0, "b", 2), (1, "c", 1), (2, "a", 1), (3, "b", 1)), (1,))
        right = Format(4, ((0, "a", 1), (0, "b", 2), (1, "b", 3), (2, "a", 3), (3, "c", 3)), (3,))
        self.assertEqual(least_form(form), right)

    def test_states_that_go_on_alike(self):
        moves = tuple((state, letter, (state + 1) % 6) for state in range(6) for letter in "ab")
        right = Format(3, tuple((state, letter, (state + 1) % 3) for state in range(3) for letter in "ab"), (2,))
        self.assertEqual(least_form(Format(6, moves, (2, 5))), right)
        self.assertEqual(least_form(Format(6, moves, tuple(range(6)))),
                         Format(1, ((0, "a", 0), (0, "b", 0)), (0,)))

    def test_formats_against_words(self):
        for form in some_formats(150, 7) + some_formats(30, 8, size=5, letters="abc") + list(FORMS):
            made = least_form(form)
            self.assertEqual(words_of(made, "abcxyz" if form in FORMS else form.letters, 4 if form in FORMS else 6),
                             words_of(form, "abcxyz" if form in FORMS else form.letters, 4 if form in FORMS else 6))
            self.assertTrue(is_least(made), str(form))
            self.assertLessEqual(made.size, max(1, len(form.useful)))
            self.assertEqual(least_form(made), made)
            self.assertEqual(format_of(form.sheet), made)

    def test_sheets_against_words(self):
        for sheet in some_sheets(150, 9) + some_sheets(20, 10, size=5):
            made = format_of(sheet)
            self.assertEqual(words_of(made, "ab", 6), words_of(sheet, "ab", 6))
            self.assertTrue(is_least(made), str(sheet))
            self.assertEqual(format_of(made.sheet), made)

    def test_by_name(self):
        self.assertEqual(least_form(form=NOAA), NOAA)
        self.assertEqual(format_of(sheet=NOAA.sheet), NOAA)

    def test_many_states(self):
        many = 3000
        moves = tuple((state, letter, (state + 1) % many) for state in range(many) for letter in "ab")
        self.assertEqual(least_form(Format(many, moves, tuple(range(0, many, 3)))).size, 3)
        form = Format(many, moves, (0,))
        self.assertEqual(least_form(form), form)
