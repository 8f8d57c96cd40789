"""Rows of two formats compared, and the papers about them."""

import itertools
import unittest

from serialhouse.formats import Format
from serialhouse.joining import backward, renamed
from serialhouse.rows import counts
from serialhouse.rules import is_rule, least_rule, terms
from serialhouse.sames import first_unlike, have_same_rows, judge_rows, rows_hold
from tests.helper import ANY, EMPTY, EVEN, FORMS, NOAA, NONE, ONES, changed, row_of, some_formats

LEFT = Format(3, ((0, "a", 1), (1, "a", 2), (1, "b", 2)), (2,))
RIGHT = Format(4, ((0, "a", 1), (0, "b", 2), (1, "a", 3), (2, "a", 3)), (3,))
PAIRS = list(itertools.product(FORMS, FORMS)) + list(zip(some_formats(150, 71, size=3), some_formats(150, 72, size=3)))


def ring(size, ends):
    return Format(size, tuple((state, "a", (state + 1) % size) for state in range(size)), ends)


def is_right(one, other, thing):
    """What the document says, by counts told one by one."""
    if type(thing) is not tuple or len(thing) != 2 or type(thing[0]) is not str:
        return False
    if thing[0] == "same":
        if not is_rule(thing[1]):
            return False
        row = row_of(thing[1], 80)
        return list(counts(one, 80)) == row == list(counts(other, 80))
    if thing[0] != "unlike" or type(thing[1]) is not int or not 0 <= thing[1] <= 300:
        return False
    return counts(one, 301)[thing[1]] != counts(other, 301)[thing[1]]


class SameTest(unittest.TestCase):
    def test_examples(self):
        self.assertEqual(judge_rows(NOAA, ONES), ("unlike", 1))
        self.assertEqual(judge_rows(LEFT, RIGHT), ("same", ((0, 0, 2), (0, 0, 0))))

    def test_against_counts(self):
        for one, other in PAIRS:
            mine, yours = counts(one, 40), counts(other, 40)
            unlike = [length for length in range(40) if mine[length] != yours[length]]
            right = unlike[0] if unlike else None
            self.assertEqual(first_unlike(one, other), right)
            self.assertIs(have_same_rows(one, other), right is None)
            paper = judge_rows(one, other)
            self.assertIs(rows_hold(one, other, paper), True)
            if right is None:
                self.assertEqual(paper[0], "same")
                self.assertEqual(terms(paper[1], 40), mine)
            else:
                self.assertEqual(paper, ("unlike", right))

    def test_equal_rows_of_unlike_formats(self):
        for form in some_formats(60, 73):
            for other in (backward(form), renamed(form, (("a", "b"), ("b", "a")))):
                self.assertIs(have_same_rows(form, other), True)
                self.assertIsNone(first_unlike(form, other))
                self.assertEqual(judge_rows(form, other)[0], "same")
        self.assertIs(have_same_rows(LEFT, RIGHT), True)
        self.assertIs(have_same_rows(NONE, Format(2, ((0, "a", 1),), ())), True)

    def test_rows_that_part_late(self):
        one, other = ring(6, (5,)), Format(7, ring(6, (5,)).moves[:5] + ((5, "a", 6), (6, "a", 0)), (5,))
        self.assertEqual(first_unlike(one, other), 11)
        self.assertEqual(first_unlike(ring(5, (0,)), ring(5, (0,))), None)
        line = Format(150, tuple((state, "a", state + 1) for state in range(149)), (149,))
        self.assertEqual(judge_rows(line, NONE), ("unlike", 149))
        self.assertEqual(judge_rows(NONE, EMPTY), ("unlike", 0))
        self.assertEqual(first_unlike(ring(150, (149,)), line), 299)
        self.assertIs(rows_hold(ring(150, (149,)), line, ("unlike", 299)), True)

    def test_by_name(self):
        self.assertIs(have_same_rows(one=LEFT, other=RIGHT), True)
        self.assertEqual(first_unlike(one=NOAA, other=EVEN), 1)
        self.assertEqual(judge_rows(other=ONES, one=NOAA), ("unlike", 1))
        self.assertIs(rows_hold(one=NOAA, other=ONES, thing=("unlike", 1)), True)


class HoldTest(unittest.TestCase):
    def test_lengths(self):
        for length in range(301):
            self.assertIs(rows_hold(NOAA, EVEN, ("unlike", length)), length > 0)
            self.assertIs(rows_hold(NOAA, NOAA, ("unlike", length)), False)
        for length in (301, 302, 10 ** 59, -1, -300, True, False, None, "1", (1,), [1], {}):
            self.assertIs(rows_hold(NOAA, EVEN, ("unlike", length)), False, length)
        self.assertIs(rows_hold(NONE, EMPTY, ("unlike", False)), False)
        self.assertIs(rows_hold(NONE, EMPTY, ("unlike", 0)), True)

    def test_rules(self):
        other = renamed(NOAA, (("a", "z"),))
        for rule in (((1, 2), (1, 1)), ((1, 2, 3), (2, 0, -1)), ((1, 2, 3, 5), (1, 1, 0, 0))):
            self.assertIs(rows_hold(NOAA, other, ("same", rule)), True)
            self.assertIs(rows_hold(NOAA, ONES, ("same", rule)), False)
            self.assertIs(rows_hold(ONES, NOAA, ("same", rule)), False)
        for rule in (((1, 2), (1, 2)), ((1, 1), (1, 1)), ((), ()), ((1,), (1,)), ((1, 2), [1, 1]), [(1, 2), (1, 1)],
                     ((1, 2), (1, True)), ((True, 2), (1, 1)), None, ((1, 2),), ((1, 2), (1,))):
            self.assertIs(rows_hold(NOAA, other, ("same", rule)), False, rule)
        for thing in (("same",), ("same", ((1, 2), (1, 1)), 0), ["same", ((1, 2), (1, 1))], ("Same", ((1, 2), (1, 1)))):
            self.assertIs(rows_hold(NOAA, other, thing), False)

    def test_any_value(self):
        for one, other in ((NOAA, NOAA), (NOAA, EVEN), (NONE, EMPTY), (NONE, NONE)):
            for thing in ANY:
                for paper in (thing, ("same", thing), ("unlike", thing), (thing, 1), ("same", (thing, thing)),
                              ("same", ((1, 2), (1, thing)))):
                    self.assertIs(rows_hold(one, other, paper), is_right(one, other, paper))

    def test_changed_papers(self):
        for at, (one, other) in enumerate(PAIRS[:120] + [(form, form) for form in some_formats(30, 74)]):
            for thing in changed(judge_rows(one, other), at, 20) + changed(("same", least_rule(one)), at, 20):
                before = repr(thing)
                self.assertIs(rows_hold(one, other, thing), is_right(one, other, thing), thing)
                self.assertEqual(repr(thing), before)
