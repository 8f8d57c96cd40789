"""Counts, against words gone through one by one."""

import unittest

from serialhouse.formats import Format
from serialhouse.rows import count, count_from, counts, counts_by_state
from tests.helper import DEAD, EMPTY, EVEN, FORMS, NOAA, NONE, some_formats, words_to


def counted(form, state, length):
    letters = sorted(set(form.letters))
    return sum(len(word) == length and form.led(word, state) in form.ends for word in words_to(letters, length))


class RowTest(unittest.TestCase):
    def test_examples(self):
        self.assertEqual(counts(NOAA, 5), (1, 2, 3, 5, 8))
        self.assertEqual(counts(EVEN, 5), (1, 0, 1, 0, 1))
        self.assertEqual(counts_by_state(NOAA, 2), (3, 2))

    def test_against_words(self):
        for form in some_formats(60, 51) + some_formats(10, 52, letters="abc") + list(FORMS):
            most = 5 if len(form.letters) < 3 else 4
            table = [tuple(counted(form, state, length) for state in range(form.size)) for length in range(most + 1)]
            for length, row in enumerate(table):
                self.assertEqual(counts_by_state(form, length), row)
                self.assertEqual(count(form, length), row[0])
                for state in range(form.size):
                    self.assertEqual(count_from(form, state, length), row[state])
            self.assertEqual(counts(form, most + 1), tuple(row[0] for row in table))

    def test_no_lengths(self):
        for form in FORMS:
            self.assertEqual(counts(form, 0), ())
        self.assertEqual(counts(NOAA, 1), (1,))

    def test_integers_and_no_bools(self):
        for number in counts(NOAA, 3) + counts_by_state(DEAD, 0) + (count(NONE, 0), count(EMPTY, 0)):
            self.assertIs(type(number), int)

    def test_states_that_are_not_useful(self):
        self.assertEqual(counts_by_state(DEAD, 0), (0, 1, 0, 1))
        self.assertEqual(counts_by_state(DEAD, 1), (1, 1, 0, 1))
        self.assertEqual(counts(DEAD, 4), (0, 1, 1, 1))
        self.assertEqual(count_from(DEAD, 3, 5), 1)
        self.assertEqual(count_from(DEAD, 2, 5), 0)
        self.assertEqual(counts(NONE, 3), (0, 0, 0))

    def test_long_ones(self):
        form = Format(1, ((0, "a", 0), (0, "b", 0), (0, "c", 0)), (0,))
        self.assertEqual(count(form, 300), 3 ** 300)
        one, other = 1, 2
        row = []
        for _ in range(301):
            row.append(one)
            one, other = other, one + other
        self.assertEqual(counts(NOAA, 301), tuple(row))
        self.assertEqual(count(NOAA, 300), row[300])

    def test_by_name(self):
        self.assertEqual(counts(form=NOAA, many=2), (1, 2))
        self.assertEqual(count(form=NOAA, length=3), 5)
        self.assertEqual(count_from(form=NOAA, state=1, length=3), 3)
        self.assertEqual(counts_by_state(form=NOAA, length=1), (2, 1))
