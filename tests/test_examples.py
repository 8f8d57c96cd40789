"""The examples of the document, as it tells them."""

import unittest

from serialhouse.comparing import first_apart
from serialhouse.farcounts import count_left
from serialhouse.formats import Format
from serialhouse.joining import again, both
from serialhouse.leastforms import format_of, least_form
from serialhouse.readingchecks import readings_hold
from serialhouse.readings import judge_readings, reading_counts
from serialhouse.rows import counts
from serialhouse.rules import least, least_rule, least_rule_from, met, obeys, part, summed
from serialhouse.sames import judge_rows, rows_hold
from serialhouse.sheets import Sheet

NOAA = Format(2, ((0, "a", 1), (0, "b", 0), (1, "b", 0)), (0, 1))
TWICE = Sheet(2, ((0, "a", 0), (0, "a", 1), (1, "a", 1)), (1,))
LAST = Sheet(2, ((0, "a", 0), (0, "a", 1), (0, "b", 0)), (1,))
ONES = Format(1, ((0, "a", 0),), (0,))


class PartOneTest(unittest.TestCase):
    def test_least_forms(self):
        form = Format(3, ((0, "a", 1), (0, "b", 2), (1, "a", 1), (2, "a", 2)), (1, 2))
        self.assertEqual(least_form(form), Format(2, ((0, "a", 1), (0, "b", 1), (1, "a", 1)), (1,)))
        self.assertEqual(format_of(LAST), Format(2, ((0, "a", 1), (0, "b", 0), (1, "a", 1), (1, "b", 0)), (1,)))

    def test_readings(self):
        self.assertTrue(readings_hold(TWICE, ("two", "aa", (0, 0, 1), (0, 1, 1))))
        self.assertTrue(readings_hold(TWICE, judge_readings(TWICE)))
        self.assertEqual(judge_readings(TWICE)[:2], ("two", "aa"))
        self.assertEqual(reading_counts(TWICE, 4), (0, 1, 2, 3))
        self.assertTrue(readings_hold(LAST, ("one", ((0, 1),))))
        self.assertTrue(readings_hold(LAST, judge_readings(LAST)))
        self.assertEqual(judge_readings(LAST)[0], "one")

    def test_joined(self):
        self.assertEqual(first_apart(NOAA, again(Format(2, ((0, "b", 1),), (1,)))), "a")
        form = Format(3, ((0, "a", 1), (1, "b", 2)), (2,))
        self.assertEqual(both(NOAA, form), form)

    def test_text(self):
        self.assertEqual(str(NOAA), "\n".join(("format 2", "move 0 a 1", "move 0 b 0", "move 1 b 0", "ends 0 1")))


class PartTwoTest(unittest.TestCase):
    def test_rows(self):
        self.assertEqual(counts(NOAA, 5), (1, 2, 3, 5, 8))
        self.assertEqual(least_rule(NOAA), ((1, 2), (1, 1)))
        self.assertEqual(least_rule_from(NOAA, 1), ((1, 1), (1, 1)))
        self.assertEqual(count_left(NOAA, 10 ** 30, 2), 0)

    def test_least(self):
        self.assertEqual(least(((1, 1, 1), (1, 0, 0))), ((1,), (1,)))
        self.assertEqual(least(((5, 1), (1, 0))), ((5, 1), (1, 0)))
        self.assertEqual(least(((0, 0), (3, 1))), ((), ()))

    def test_rules(self):
        self.assertIs(obeys(NOAA, ((1, 2, 3), (2, 0, -1))), True)
        self.assertEqual(summed(((1,), (1,))), ((1, 2), (2, -1)))
        self.assertEqual(part(((1, 2), (1, 1)), 2, 0), ((1, 3), (3, -1)))
        self.assertEqual(met(((1,), (2,)), ((1,), (1,))), ((1, 3), (3, -2)))

    def test_same_rows(self):
        self.assertEqual(judge_rows(NOAA, ONES), ("unlike", 1))
        self.assertTrue(rows_hold(NOAA, NOAA, judge_rows(NOAA, NOAA)))
