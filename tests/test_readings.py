"""Readings of words by sheets, and the papers that are told about them."""

import unittest

from serialhouse.leastforms import format_of
from serialhouse.readingchecks import readings_hold
from serialhouse.readings import count_readings, is_read_in_one, judge_readings, reading_counts, readings
from serialhouse.rows import counts
from serialhouse.sheets import Sheet
from tests.helper import FORMS, LAST, NOAA, TWICE, some_formats, some_sheets, ways, words_to

MESH = Sheet(2, tuple((state, "a", goal) for state in range(2) for goal in range(2)), (0, 1))
SHEETS = some_sheets(200, 31) + some_sheets(40, 32, size=5) + some_sheets(60, 33, size=3, letters="a") + [
    TWICE, LAST, MESH] + [form.sheet for form in FORMS]


class ReadingTest(unittest.TestCase):
    def test_against_all_ways(self):
        for sheet in SHEETS[::4]:
            for word in words_to("abz", 3) + words_to("ab", 5)[15:]:
                right = ways(sheet, word)
                self.assertEqual(readings(sheet, word), right)
                self.assertEqual(count_readings(sheet, word), len(right))

    def test_reading_counts(self):
        self.assertEqual(reading_counts(TWICE, 4), (0, 1, 2, 3))
        for sheet in SHEETS[::3]:
            letters = sheet.letters
            if len(letters) > 2:
                continue
            words = words_to(letters, 5)
            right = tuple(sum(len(ways(sheet, word)) for word in words if len(word) == length) for length in range(6))
            for many in range(7):
                self.assertEqual(reading_counts(sheet, many)[:6], right[:many])
                self.assertEqual(len(reading_counts(sheet, many)), many)

    def test_long_words(self):
        self.assertEqual(count_readings(TWICE, "a" * 120), 120)
        self.assertEqual(len(readings(TWICE, "a" * 120)), 120)
        self.assertEqual(count_readings(MESH, "a" * 120), 2 ** 120)
        self.assertEqual(reading_counts(MESH, 200)[199], 2 ** 199)
        self.assertEqual(readings(LAST, "ab" * 59 + "aa"), ((0,) * 120 + (1,),))
        self.assertEqual(count_readings(LAST, "ab" * 60), 0)
        told = readings(TWICE, "a" * 120)
        self.assertEqual(list(told), sorted(told))

    def test_two_thousand_readings(self):
        sheet = Sheet(4, ((0, "a", 0), (0, "a", 1), (1, "a", 1), (1, "a", 2), (2, "a", 2)), (2,))
        told = readings(sheet, "a" * 63)
        self.assertEqual(len(told), 63 * 62 // 2)
        self.assertEqual(list(told), sorted(set(told)))

    def test_ways_that_do_not_end(self):
        sheet = Sheet(3, tuple((state, "a", goal) for state in (0, 1) for goal in (0, 1)) + ((1, "b", 2),), (2,))
        self.assertEqual(readings(sheet, "a" * 120), ())
        self.assertEqual(readings(sheet, "a" * 120 + "z"), ())

    def test_letters_that_the_sheet_does_not_have(self):
        self.assertEqual(readings(TWICE, "z"), ())
        self.assertEqual(count_readings(TWICE, "az"), 0)
        self.assertEqual(readings(NOAA.sheet, ""), ((0,),))

    def test_by_name(self):
        self.assertEqual(readings(sheet=TWICE, word="a"), ((0, 1),))
        self.assertEqual(count_readings(sheet=TWICE, word="aa"), 2)
        self.assertEqual(reading_counts(sheet=TWICE, many=2), (0, 1))
        self.assertEqual(judge_readings(sheet=LAST), ("one", ((0, 1),)))
        self.assertIs(is_read_in_one(sheet=LAST), True)


class JudgeTest(unittest.TestCase):
    def test_examples(self):
        self.assertEqual(judge_readings(TWICE), ("two", "aa", (0, 0, 1), (0, 1, 1)))
        self.assertEqual(judge_readings(LAST), ("one", ((0, 1),)))
        self.assertIs(is_read_in_one(TWICE), False)

    def test_against_all_ways(self):
        kinds = set()
        for sheet in SHEETS:
            word = next((word for word in words_to(sheet.letters[:3], 8 if len(sheet.letters) < 3 else 4)
                         if len(ways(sheet, word)) > 1), None)
            paper = judge_readings(sheet)
            kinds.add(paper[0])
            self.assertIs(is_read_in_one(sheet), paper[0] == "one")
            self.assertIs(readings_hold(sheet, paper), True)
            if paper[0] == "one":
                self.assertIsNone(word)
            else:
                if word is not None:
                    self.assertEqual(paper[1], word)
                right = ways(sheet, paper[1])
                self.assertIn(paper[2], right)
                self.assertIn(paper[3], right)
                self.assertNotEqual(paper[2], paper[3])
        self.assertEqual(kinds, {"one", "two"})

    def test_the_first_word_in_order(self):
        sheet = Sheet(4, ((0, "a", 1), (0, "b", 2), (0, "b", 3), (2, "a", 1), (2, "b", 1), (3, "a", 1), (3, "b", 1)), (1,))
        self.assertEqual(judge_readings(sheet), ("two", "ba", (0, 2, 1), (0, 3, 1)))

    def test_many_readings_at_the_first_word(self):
        moves = tuple((state, "a", goal) for state in (0, 1) for goal in (0, 1)) + (
            (0, "b", 2), (1, "b", 2), (2, "b", 3), (3, "b", 4))
        paper = judge_readings(Sheet(5, tuple(sorted(moves)), (4,)))
        self.assertEqual(paper, ("two", "abbb", (0, 0, 2, 3, 4), (0, 1, 2, 3, 4)))

    def test_where_no_word_leads_on_to_an_end(self):
        sheet = Sheet(4, ((0, "a", 1), (0, "a", 2), (1, "b", 3), (2, "b", 3)), (1,))
        self.assertEqual(judge_readings(sheet), ("one", ((1, 2),)))
        sheet = Sheet(4, ((0, "a", 3), (1, "a", 1), (1, "a", 2)), (1, 2))
        self.assertEqual(judge_readings(sheet), ("one", ()))

    def test_formats_are_read_in_one_way(self):
        for form in list(FORMS) + some_formats(30, 34):
            self.assertEqual(judge_readings(form.sheet), ("one", ()))

    def test_as_many_words_as_readings(self):
        for sheet in SHEETS:
            words = counts(format_of(sheet), 12)
            if is_read_in_one(sheet):
                self.assertEqual(reading_counts(sheet, 12), words)
            else:
                self.assertTrue(all(mine >= yours for mine, yours in zip(reading_counts(sheet, 12), words)))
