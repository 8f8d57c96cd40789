"""Findings: each sort that holds, the same with a part otherwise, and any values."""

import copy
import unittest
from fractions import Fraction

from serialhouse.drawfindings import draw_finding_holds
from serialhouse.findings import finding_holds
from serialhouse.formats import Format
from serialhouse.formfindings import form_finding_holds
from serialhouse.growthfindings import growth_finding_holds
from serialhouse.joining import behind, either
from serialhouse.leads import judge_lead
from serialhouse.numbering import length_at
from serialhouse.rows import count
from tests.findings import (
    draw_findings, form_findings, growth_findings, is_right_of_draws, is_right_of_forms, is_right_of_growth)
from tests.helper import AA, ALL, ANY, EVEN, LAST, LEFT, NOAA, NONE, ONES, RIGHT, TWICE, changed

LOTS = (
    (form_findings(), form_finding_holds, is_right_of_forms), (draw_findings(), draw_finding_holds, is_right_of_draws),
    (growth_findings(), growth_finding_holds, is_right_of_growth))
SORTS = (
    {"word", "no word", "same words", "apart", "one reading", "two readings", "count", "rule", "same rows", "unlike rows",
     "number", "length at", "lead", "parted", "into", "barred", "led"},
    {"mean", "tree", "least", "one way", "two ways", "look", "no look", "joins"},
    {"round", "lengths", "empty lengths", "left alike", "left apart", "growth", "never fewer", "pieces", "share", "limits",
     "thin", "thick"})
N, A = str(NOAA), str(AA)


class HoldingTest(unittest.TestCase):
    def test_each_sort(self):
        for (told, _, _), sorts in zip(LOTS, SORTS):
            self.assertEqual({thing[0] for thing in told}, sorts)

    def test_what_holds(self):
        for told, holds, is_right in LOTS:
            for thing in told:
                before = copy.deepcopy(thing)
                self.assertIs(is_right(thing), True, thing)
                self.assertIs(holds(thing), True, thing)
                self.assertIs(finding_holds(thing=thing), True)
                self.assertIs(holds(thing=thing), True)
                self.assertEqual(thing, before)

    def test_none_lets_those_of_others(self):
        for told, holds, _ in LOTS:
            for _, other, _ in LOTS:
                if other is not holds:
                    for thing in told:
                        self.assertIs(other(thing), False)

    def test_any_values(self):
        for thing in ANY + (("word",), ("word", N), ("mean",), ("mean", 2), ("growth",), (["word"], N, "a"), ("Word", N, "a"),
                            (None, N, "a"), ((), N, "a"), ("", N, "a"), ("round", N), ("same words", N), ["word", N, "a"]):
            for _, holds, _ in LOTS:
                self.assertIs(holds(thing), False)
            self.assertIs(finding_holds(thing), False)

    def test_changed(self):
        for told, holds, is_right in LOTS:
            seen = set()
            for number, thing in enumerate(told[::2]):
                for other in changed(thing, number, 14):
                    if self.is_beyond(other):
                        continue
                    right = is_right(other)
                    self.assertIs(holds(other), right, other)
                    self.assertIs(finding_holds(other), right)
                    if other != thing:
                        seen.add((other[0], right) if right else right)
            self.assertGreater(len(seen), 3)

    def is_beyond(self, thing):
        """Whether a word or a number is more than the checks here go through one by one."""
        if isinstance(thing, tuple):
            return any(self.is_beyond(part) for part in thing)
        if isinstance(thing, str):
            return len(thing) > 200 or thing.startswith("format") and self.many_states(thing) > 9
        return type(thing) is int and abs(thing) > 400

    def many_states(self, text):
        figures = text.split("\n")[0][7:]
        return int(figures) if figures.isdigit() else 0

    def test_other_kinds_in_each_place(self):
        for told, holds, _ in LOTS:
            firsts = {}
            for thing in told:
                firsts.setdefault(thing[0], thing)
            for thing in firsts.values():
                self.assertIs(holds(list(thing)), False)
                self.assertIs(holds(thing + (0,)), False)
                self.assertIs(holds(thing[:-1]), False)
                for place in range(1, len(thing)):
                    for other in (None, [thing[place]], {}, NOAA, -1, "A", b"a", ("x",)):
                        self.assertIs(holds(thing[:place] + (other,) + thing[place + 1:]), False, (thing, place, other))


class PlainTest(unittest.TestCase):
    def check(self, right, *thing):
        self.assertIs(finding_holds(thing), right, thing)

    def test_example(self):
        self.check(False, "mean", 4, 4, 2)
        self.check(True, "mean", 4, 2, 1)

    def test_words(self):
        self.check(True, "word", N, "abba")
        self.check(False, "word", N, "aa")
        self.check(True, "no word", N, "aa")
        self.check(True, "no word", N, "xyz")
        self.check(False, "no word", N, "AA")
        self.check(False, "no word", N, 0)
        self.check(False, "no word", N, None)
        self.check(False, "no word", N, "a\n")
        self.check(True, "apart", N, A, "aa")
        self.check(True, "apart", N, A, "")
        self.check(False, "apart", N, A, "aaa")
        self.check(False, "apart", N, A, True)
        self.check(True, "same words", N, N)
        self.check(False, "same words", N, A)

    def test_texts(self):
        for text in (NOAA, str(NOAA.sheet), N + " ", N + "\n", N.replace("\n", ";"), "", None):
            self.check(False, "word", text, "a")
            self.check(False, "same words", N, text)
        self.check(True, "one reading", str(LAST), ((0, 1),))
        self.check(False, "one reading", str(LAST).replace("sheet", "format"), ((0, 1),))
        self.check(True, "two readings", str(TWICE), "aa", (0, 0, 1), (0, 1, 1))
        self.check(False, "two readings", str(TWICE), "aa", (0, 0, 1), (0, 0, 1))

    def test_counts(self):
        self.check(True, "count", N, 300, count(NOAA, 300))
        self.check(False, "count", N, 301, count(NOAA, 301))
        self.check(False, "count", N, 10 ** 59, 1)
        self.check(False, "count", str(ONES), 3, True)
        self.check(False, "count", str(ONES), True, 1)
        self.check(True, "unlike rows", N, A, 300)
        self.check(False, "unlike rows", N, A, 301)
        self.check(True, "rule", N, (1, 2, 3), (2, 0, -1))
        self.check(False, "rule", N, (1, 2, 3), (2, 0))

    def test_numbers(self):
        self.check(True, "number", N, "ba", 4)
        self.check(False, "number", N, "ba", 5)
        self.check(False, "number", N, "aa", 3)
        self.check(False, "number", N, "a", True)
        self.check(True, "length at", N, 10 ** 30, 142)
        self.check(True, "length at", str(ONES), 10 ** 59, 10 ** 59)
        self.check(False, "length at", N, -1, 0)
        self.check(False, "length at", A, 1, 2)
        self.check(False, "length at", A, 1, None)
        self.check(False, "length at", N, True, 1)
        self.check(False, "length at", N, 1, True)
        self.assertIsNone(length_at(AA, 1))

    def test_leads(self):
        table = judge_lead(NOAA, NOAA)[1]
        self.check(True, "led", N, N, table, "abb", "abb")
        self.check(False, "led", N, N, table, "aa", "aa")
        self.check(False, "led", N, N, table, "abb", "abbb")
        self.check(False, "led", N, A, table, "abb", "abb")
        self.check(False, "led", N, N, table, None, None)
        rounds = (((0, 0, 1), (0, 0, 0, 1)), ((0, 1, 2), (1, 0, 0, 2)))
        self.check(True, "parted", str(LEFT), str(RIGHT), rounds)
        self.check(False, "lead", str(LEFT), str(RIGHT), rounds)
        self.check(False, "barred", str(LEFT), str(RIGHT), rounds)

    def test_draws(self):
        self.check(True, "mean", 300, *self.mean_of(300))
        for many in (0, -1, True, 10 ** 59, None, "4"):
            self.check(False, "mean", many, 0, 1)
        self.check(True, "mean", 1, 0, 1)
        self.check(False, "mean", 1, False, True)
        self.check(True, "tree", 2, ((0, 0),), ("endless", ""))
        self.check(True, "tree", 10 ** 59, ((0, 0),), ("endless", ""))
        self.check(False, "tree", 0, ((0, 0),), ("endless", ""))
        self.check(False, "tree", True, ((0, 0),), ("endless", ""))
        self.check(False, "tree", 1, (), ("ends", (), ()))
        self.check(True, "least", 1, ())
        self.check(False, "least", True, ())
        self.check(False, "least", 2, ())
        self.check(True, "least", 2, ((-1, -2),))
        self.check(False, "least", 10 ** 59, ((-1, -2),))
        self.check(False, "least", 1, ((-1, -1),))
        self.check(False, "least", 2, ((-1, -1),))

    def mean_of(self, many):
        """The mean by its sum, going on until open places come round: 300 is 4 * 75, and 75 has the round 20."""
        first, places = 2, 20
        opens = [2 ** depth % many for depth in range(first + places)]
        self.assertEqual(2 ** (first + places) % many, opens[first])
        top = sum(number * 2 ** (first - depth) for depth, number in enumerate(opens[:first])) * (2 ** places - 1)
        top += sum(number * 2 ** (places - at) for at, number in enumerate(opens[first:]))
        bottom = 2 ** first * (2 ** places - 1)
        share = Fraction(top, bottom)
        return share.numerator, share.denominator

    def test_codes(self):
        self.check(True, "one way", "ab", ("a", "ab", "bb"), ("b",))
        self.check(False, "one way", "ba", ("a", "ab", "bb"), ("b",))
        self.check(False, "one way", "ab", ("a", "ab", "ab"), ("b",))
        self.check(True, "two ways", "ab", ("a", "ab", "ba"), (0, 2), (1, 0))
        self.check(True, "look", "ab", ("a", "aab"), 2, (("ab", 1), ("b", 0)))
        self.check(True, "look", "ab", ("a", "aab"), 9, (("ab", 1), ("b", 0)))
        self.check(False, "look", "ab", ("a", "aab"), 1, (("ab", 1), ("b", 0)))
        self.check(True, "no look", "ab", ("a", "ab", "bb"), ((0,), (1,), (2,), (2,)))
        self.check(False, "no look", "ab", ("a", "ab", "bb"), ((0,), (1,), (2,)))
        self.check(False, "no look", "ab", ("a", "ab", "bb"), [(0,), (1,), (2,), (2,)])
        self.check(False, "no look", "ab", ("a", "ab", "bb"), (0,), (1,), (2,), (2,))
        self.check(True, "joins", 2, (5, 1, 1, 3), ((1, 2), (3, 4), (0, 5)))
        for letters, weights in ((3, (5, 1, 1, 3)), (1, (5, 1, 1, 3)), (True, (5, 1, 1, 3)), (2, [5, 1, 1, 3]), (2, (5, 1, True, 3)),
                                 (2, (5, 1, -1, 3)), (4, (5, 1, 1, 3))):
            self.check(False, "joins", letters, weights, ((1, 2), (3, 4), (0, 5)))
        self.check(False, "joins", 2, (), ())
        self.check(True, "joins", 2, (0,), ())

    def test_remainders(self):
        self.check(True, "round", N, 2, 5, 3 * 10 ** 20)
        self.check(False, "round", N, 2, 5, 3 * 10 ** 20 + 1)
        for under in (0, -2, True, None, "2"):
            self.check(False, "round", N, under, 0, 3)
            self.check(False, "left alike", N, N, under)
            self.check(False, "left apart", N, A, under, 2)
            self.check(False, "lengths", N, under, 0, ((), 0, 3, (1,)))
        self.check(True, "lengths", N, 2, 0, ((), 0, 3, (1,)))
        for lot in (((), 0, 6, (1, 4)), ((1,), 2, 3, (1,)), ((), 0, 3, (2,)), ((), False, 3, (1,)), [(), 0, 3, (1,)], ((), 0, 3),
                    ((), 0, 3, [1])):
            self.check(False, "lengths", N, 2, 0, lot)
        for rest in (2, -1, False, None, 3):
            self.check(False, "lengths", N, 2, rest, ((), 0, 3, (1,)))
        self.check(True, "lengths", N, 8, 4, ((), 0, 1, ()))
        # Remainders of this one come round only far on: no lot holds.
        far = Format(4, ((0, "a", 1), (0, "b", 0), (0, "c", 2), (1, "b", 3), (2, "a", 0), (3, "a", 0), (3, "b", 2)), (0,))
        self.check(False, "lengths", str(far), 997, 0, ((), 0, 1, ()))
        self.check(True, "empty lengths", str(EVEN), ((), 0, 2, (1,)))
        self.check(False, "empty lengths", str(EVEN), ((), 0, 2, (0,)))
        self.check(True, "left alike", N, A, 1)
        self.check(False, "left alike", N, A, 2)
        self.check(True, "left apart", N, A, 2, 3 * 10 ** 29)
        self.check(False, "left apart", N, A, 2, 3 * 10 ** 29 + 1)

    def test_growth(self):
        ab = str(Format(2, ((0, "a", 0), (0, "b", 1), (1, "b", 1)), (0, 1)))
        self.check(True, "growth", N, ("doubles", "", "abb", "bab", ""))
        self.check(True, "growth", ab, ("power", 1, ((0, 2, 0), (1, 1, 0)), ("", "a", "b", "b", "")))
        self.check(False, "growth", ab, ("doubles", "", "abb", "bab", ""))
        self.check(True, "never fewer", ab, str(EVEN), ("from", 0, ((0, (0, 2)), (1, (2, 2)))))
        self.check(True, "never fewer", str(EVEN), ab, ("again", 1, (-2, -2)))
        self.check(False, "never fewer", N, ab, ("from", 0, ((0, (0, 2)),)))
        self.check(True, "pieces", ab, 0, (((1, 1), (1, 1)),))
        self.check(False, "pieces", ab, 1, (((1, 1), (1, 1)),))
        self.check(False, "pieces", ab, False, (((1, 1), (1, 1)),))
        self.check(False, "pieces", ab, 0, (((1, 1), (2, 2)),))
        self.check(False, "pieces", N, 0, (((1, 1), (1, 1)),))

    def test_shares(self):
        self.check(True, "share", N, "ab", 3, 5, 8)
        self.check(True, "share", N, "abz", 3, 5, 27)
        for letters in ("a", "ba", "aab", "", "abcd", "ABa", ("a", "b"), None):
            self.check(False, "share", N, letters, 3, 5, 8)
            self.check(False, "limits", N, letters, ("limits", (), (), ()))
            self.check(False, "thin", N, letters, ("aa", "a"))
        self.check(True, "limits", N, "ab", ("limits", (), (), ()))
        self.check(True, "thin", N, "ab", ("aa", "a"))
        self.check(False, "thick", N, "ab", (0, 1), 0)
        self.check(True, "thick", str(EVEN), "a", (0, 1), 0)
        self.check(False, "share", N, "ab", 3, 10, 16)
        self.check(False, "share", N, "ab", True, 1, 1)
        self.check(False, "share", N, "ab", 10 ** 59, 0, 1)
        self.check(False, "share", str(ONES), "a", 3, True, 1)

    def test_texts_of_returned_formats(self):
        form = behind(either(NOAA, EVEN), either(behind(AA, LEFT), ALL))
        self.check(True, "count", str(form), 12, count(form, 12))
        self.check(True, "same words", str(form), str(either(form, NONE)))

    def test_sizes_beyond_all_limits(self):
        text = "format 1" + "0" * 40 + "\nmove 0 a 0\nends 0"
        for thing in (("count", text, 3, 1), ("word", text, "a"), ("growth", text, ("ends", ())), ("share", text, "a", 1, 1, 1),
                      ("one reading", text.replace("format", "sheet"), ())):
            self.assertIn(finding_holds(thing), (True, False))
