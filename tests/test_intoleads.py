"""Leads into another format, and papers about them."""

import itertools
import random
import unittest

from serialhouse.formats import Format
from serialhouse.intoleads import barring_depth, into_holds, is_into, judge_into
from serialhouse.leads import is_led
from tests.helper import (
    AA, ALL, ANY, DEAD, EMPTY, EVENS, FORMS, LEFT, NOAA, NONE, ONES, RIGHT, SOME, changed, some_formats)
from tests.test_leads import useful_goals
from tests.test_leadtables import is_int, is_letter, told_table, useful_letters

BARS = Format(2, ((0, "a", 1), (0, "b", 0), (1, "a", 0)), ())
PAIRS = [(SOME, EVENS), (EVENS, SOME), (EVENS, ALL), (ALL, EVENS), (NONE, NONE), (NONE, NOAA), (NOAA, NONE), (NOAA, BARS),
         (AA, BARS), (EMPTY, NOAA), (LEFT, RIGHT), (RIGHT, LEFT)]


def pairs(seed, many=150, letters="ab"):
    source = random.Random(seed)
    forms = some_formats(40, seed, 3, letters) + list(FORMS) + [LEFT, RIGHT, ALL, EVENS, SOME, BARS]
    return PAIRS + [(source.choice(forms), source.choice(forms)) for _ in range(many)]


def told_depth(one, other):
    """The barring depth by all pairs of states, as many letters as there are pairs."""
    if not one.useful:
        return None
    ends = {(state, goal): state not in one.ends or goal in other.ends
            for state in one.useful for goal in range(other.size)}
    good = ends
    for depth in range(one.size * other.size + 2):
        if not good[(0, 0)]:
            return depth
        good = {pair: ends[pair] and goes_on(one, other, pair, good) for pair in good}
    return None


def goes_on(one, other, pair, good):
    mine = useful_goals(one, pair[0])
    yours = [move[2] for move in other.moves if move[0] == pair[1]]
    return any(all(good[each] for each in zip(mine, chosen)) for chosen in itertools.permutations(yours, len(mine)))


def told_rows(one, other, thing):
    """Whether a value is a tuple of rows that bar, as the document tells it."""
    if type(thing) is not tuple:
        return False
    for row in thing:
        if type(row) is not tuple or len(row) != 4 or not is_int(row[0]) or not is_int(row[1]) or not is_int(row[2]):
            return False
        if row[0] not in one.useful or not 0 <= row[1] < other.size or row[2] < 0:
            return False
        if row[3] is None:
            continue
        if type(row[3]) is not tuple or not row[3] or not all(is_letter(letter) for letter in row[3]):
            return False
        if list(row[3]) != sorted(set(row[3])) or not set(row[3]) <= set(useful_letters(one, row[0])):
            return False
    if [row[:2] for row in thing] != sorted({row[:2] for row in thing}) or (0, 0) not in [row[:2] for row in thing]:
        return False
    return all(told_barred(one, other, thing, *row) for row in thing)


def told_barred(one, other, rows, state, goal, rank, letters):
    if letters is None:
        return state in one.ends and goal not in other.ends
    lesser = {row[:2] for row in rows if row[2] < rank}
    fitting = [behind for source, behind, further in other.moves if source == goal
               and any((one.step(state, letter), further) not in lesser for letter in letters)]
    return len(fitting) < len(letters)


def told_paper(one, other, thing):
    if type(thing) is not tuple or len(thing) != 2 or type(thing[0]) is not str:
        return False
    if thing[0] == "into":
        return told_table(one, other, thing[1])
    return thing[0] == "barred" and told_rows(one, other, thing[1])


class IntoTest(unittest.TestCase):
    def test_papers_and_depths(self):
        kinds = []
        for one, other in pairs(341, 400) + pairs(342, 100, "abc"):
            depth = told_depth(one, other)
            paper = judge_into(one, other)
            self.assertTrue(told_paper(one, other, paper))
            self.assertIs(into_holds(one, other, paper), True)
            self.assertEqual(paper[0], "into" if depth is None else "barred")
            self.assertEqual(barring_depth(one, other), depth)
            self.assertIs(is_into(one, other), depth is None)
            kinds.append(depth)
        self.assertGreater(kinds.count(None), 100)
        self.assertGreater(len(set(kinds)), 4)

    def test_both_ways_are_a_lead(self):
        for one, other in pairs(343):
            self.assertIs(is_into(one, other) and is_into(other, one), is_led(one, other))

    def test_first_format_without_words(self):
        for other in (NONE, NOAA, BARS, EMPTY):
            for one in (NONE, BARS):
                self.assertEqual(judge_into(one, other), ("into", ()))
                self.assertIsNone(barring_depth(one, other))
                self.assertIs(into_holds(one, other, ("barred", ((0, 0, 0, None),))), False)

    def test_second_format_without_words(self):
        self.assertEqual(barring_depth(AA, NONE), 1)
        self.assertEqual(barring_depth(AA, BARS), 2)
        self.assertEqual(barring_depth(EMPTY, BARS), 0)
        paper = ("barred", ((0, 0, 2, ("a",)), (1, 0, 1, ("a",)), (1, 1, 1, ("a",)), (2, 0, 0, None), (2, 1, 0, None)))
        self.assertIs(into_holds(AA, BARS, paper), True)
        for one in (AA, NOAA, ONES, LEFT):
            self.assertIs(is_into(one, BARS), False)

    def test_one_thing_otherwise(self):
        right = 0
        for number, (one, other) in enumerate(pairs(344, 40)):
            paper = judge_into(one, other)
            for thing in changed(paper, number, 120):
                self.assertIs(into_holds(one, other, thing), told_paper(one, other, thing))
                right += into_holds(one, other, thing) and thing != paper
        self.assertGreater(right, 10)

    def test_any_value(self):
        for one, other in PAIRS:
            for thing in ANY:
                self.assertIs(into_holds(one, other, thing), told_paper(one, other, thing))
                for kind in ("into", "barred", "lead"):
                    self.assertIs(into_holds(one, other, (kind, thing)), told_paper(one, other, (kind, thing)))

    def test_greater_ranks_and_rows_that_nothing_leans_on(self):
        right = 0
        for one, other in pairs(345, 60):
            kind, rows = judge_into(one, other)
            if kind != "barred":
                continue
            source = random.Random(len(rows))
            spread = tuple(row[:2] + (row[2] * 10 ** 59 + source.choice((0, 1, 5)) * (row[2] > 0), row[3])
                           for row in rows)
            self.assertEqual(into_holds(one, other, ("barred", spread)), told_rows(one, other, spread))
            self.assertTrue(into_holds(one, other, ("barred", tuple(row[:2] + (row[2] * 7 + 3, row[3]) for row in rows))))
            ranks = {row[:2]: row for row in rows}
            for state in one.useful:
                for goal in range(other.size):
                    if state in one.ends and goal not in other.ends:
                        ranks.setdefault((state, goal), (state, goal, 10 ** 59, None))
                    for letters in (("a",), ("b",), ("a", "b")):
                        more = tuple(sorted(list(rows) + [(state, goal, 0, letters)], key=lambda row: row[:3]))
                        self.assertEqual(into_holds(one, other, ("barred", more)), told_rows(one, other, more))
            further = tuple(ranks[pair] for pair in sorted(ranks))
            self.assertTrue(into_holds(one, other, ("barred", further)))
            right += len(further) > len(rows)
        self.assertGreater(right, 5)

    def test_rules_one_by_one(self):
        self.assertIs(into_holds(ALL, ONES, ("barred", ((0, 0, 0, ("a", "b")),))), True)
        for letters in (("b", "a"), ("a", "a"), ("a", "a", "b"), ("a",), ("a", "c"), ("a", "b", "c"), (), ["a", "b"], "ab",
                        ("a", ["b"]), ("a", None)):
            self.assertIs(into_holds(ALL, ONES, ("barred", ((0, 0, 0, letters),))), False)
        for rank in (-1, False, "0", None, (0,)):
            self.assertIs(into_holds(ALL, ONES, ("barred", ((0, 0, rank, ("a", "b")),))), False)
        self.assertIs(into_holds(ONES, ONES, ("barred", ((0, 0, 0, ("a", "a")),))), False)
        for rows in (((0, 0, 0, ("a", "b")), (0, 0, 1, ("a", "b"))), ((0, 0, 0, ("a", "b")),) * 2, ((0, 0, 0),), ()):
            self.assertIs(into_holds(ALL, ONES, ("barred", rows)), False)
        # An end that is not met is not useful, so it has no row.
        self.assertIs(into_holds(DEAD, NONE, ("barred", ((0, 0, 0, ("a",)),))), True)
        self.assertIs(into_holds(DEAD, NONE, ("barred", ((0, 0, 0, ("a",)), (1, 0, 7, None)))), True)
        self.assertIs(into_holds(DEAD, NONE, ("barred", ((0, 0, 0, ("a",)), (3, 0, 0, None)))), False)
        self.assertIs(into_holds(DEAD, NONE, ("barred", ((0, 0, 0, ("b",)),))), False)

    def test_many_letters(self):
        many = Format(1, tuple((0, letter, 0) for letter in "abcdefghij"), (0,))
        fewer = Format(1, tuple((0, letter, 0) for letter in "klmnopqrs"), (0,))
        self.assertIs(is_into(fewer, many), True)
        self.assertEqual(judge_into(many, fewer), ("barred", ((0, 0, 1, tuple("abcdefghij")),)))
        self.assertIs(is_into(DEAD, many), True)

    def test_choices_that_have_to_be_given_up(self):
        one = Format(4, ((0, "a", 1), (0, "b", 2), (0, "c", 3), (1, "a", 1), (1, "b", 1), (2, "a", 2), (3, "a", 3), (3, "b", 3)),
                     (1, 2, 3))
        other = Format(4, ((0, "x", 1), (0, "y", 2), (0, "z", 3), (1, "a", 1), (1, "b", 1), (2, "a", 2), (2, "b", 2),
                           (3, "c", 3)), (0, 1, 2, 3))
        paper = judge_into(one, other)
        self.assertEqual(paper[0], "into")
        self.assertEqual([step[1] for step in paper[1][0][2]][1], "z")
        short = Format(4, ((0, "x", 1), (0, "y", 2), (0, "z", 3), (1, "a", 1), (1, "b", 1), (2, "a", 2), (3, "c", 3)),
                       (0, 1, 2, 3))
        self.assertEqual(barring_depth(one, short), 2)
        self.assertEqual(judge_into(one, short)[1][0], (0, 0, 2, ("a", "c")))
