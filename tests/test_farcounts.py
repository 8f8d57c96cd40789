"""Terms far on in a row, divided."""

import unittest

from serialhouse.farcounts import count_left, multiplied, term_left
from serialhouse.formats import Format
from serialhouse.rows import counts
from tests.helper import EMPTY, EVEN, FORMS, NOAA, NONE, ONES, row_of, some_formats, some_rules

FAR = 10 ** 30


class LeftTest(unittest.TestCase):
    def test_examples(self):
        self.assertEqual(count_left(NOAA, FAR, 2), 0)
        for length in range(30):
            self.assertEqual(count_left(NOAA, length, 2), 0 if length % 3 == 1 else 1)

    def test_small_lengths(self):
        for form in some_formats(60, 81) + some_formats(20, 82, letters="abc") + list(FORMS):
            row = counts(form, 40)
            for under in (1, 2, 7, 10, 999999, 10 ** 6):
                for length in (0, 1, 2, 3, 5, 8, 20, 39):
                    self.assertEqual(count_left(form, length, under), row[length] % under)

    def test_terms(self):
        for rule in some_rules(80, 83, most=5) + [((), ()), ((5, 1), (1, 0)), ((0, 0, 7), (0, 0, 0)), ((-1,), (-1,))]:
            row = row_of(rule, 60)
            for under in (1, 2, 9, 10 ** 6):
                for index in (0, 1, 2, 3, 4, 5, 6, 31, 32, 59):
                    self.assertEqual(term_left(rule, index, under), row[index] % under)

    def test_terms_below_0(self):
        self.assertEqual(term_left(((-1,), (1,)), FAR, 10), 9)
        self.assertEqual(term_left(((-3, 4), (0, 0)), 0, 10 ** 6), 999997)
        self.assertEqual(term_left(((1,), (-1,)), FAR, 7), 1)
        self.assertEqual(term_left(((1,), (-1,)), FAR - 1, 7), 6)
        self.assertEqual(term_left(((-10 ** 12,), (10 ** 6 - 1,)), 1, 10 ** 6), 0)

    def test_dividing_by_1(self):
        for form in FORMS:
            self.assertEqual(count_left(form, FAR, 1), 0)
            self.assertEqual(count_left(form, 0, 1), 0)
        self.assertEqual(term_left(((), ()), 5, 1), 0)
        self.assertEqual(term_left(((3,), (2,)), FAR, 1), 0)

    def test_far_lengths(self):
        both = Format(1, ((0, "a", 0), (0, "b", 0), (0, "c", 0)), (0,))
        for under in (2, 10, 97, 999983, 10 ** 6):
            for length in (FAR, FAR - 1, 10 ** 15 + 7):
                self.assertEqual(count_left(both, length, under), pow(3, length, under))
        self.assertEqual(count_left(EVEN, FAR, 5), 1)
        self.assertEqual(count_left(EVEN, FAR - 1, 5), 0)
        self.assertEqual(count_left(ONES, FAR, 10 ** 6), 1)
        self.assertEqual(count_left(EMPTY, FAR, 10), 0)
        self.assertEqual(count_left(NONE, FAR, 10), 0)
        self.assertEqual(term_left(((0, 1), (2, -1)), FAR, 999983), FAR % 999983)
        self.assertEqual(term_left(((0, 1), (2, -1)), FAR - 1, 10 ** 6), 999999)

    def test_what_comes_round(self):
        # By 10 the numbers of Fibonacci come round after 60, by 1000 after 1500, by 10 ** 6 after 1500000.
        row = row_of(((1, 2), (1, 1)), 1500)
        self.assertEqual(count_left(NOAA, FAR, 10), row[FAR % 60] % 10)
        self.assertEqual(count_left(NOAA, FAR, 1000), row[FAR % 1500] % 1000)
        self.assertEqual(count_left(NOAA, 1500000 * 10 ** 20 + 77, 10 ** 6), row[77] % 10 ** 6)

    def test_many_factors(self):
        rule = (tuple(range(1, 151)), (0,) * 148 + (3, 999999))
        row = row_of(rule, 1000)
        for index in (0, 149, 150, 555, 999):
            self.assertEqual(term_left(rule, index, 10 ** 6), row[index] % 10 ** 6)

    def test_by_name(self):
        self.assertEqual(count_left(form=NOAA, length=4, under=5), 3)
        self.assertEqual(term_left(rule=((1, 2), (1, 1)), index=4, under=5), 3)

    def test_multiplied(self):
        self.assertEqual(multiplied([1, 2], [3, 4, 5], 1000), [3, 10, 13, 10])
        self.assertEqual(multiplied([0], [0, 0], 7), [0, 0])
        self.assertEqual(multiplied([999999] * 9, [999999] * 9, 10 ** 6),
                         [(at + 1 if at < 9 else 17 - at) for at in range(17)])
