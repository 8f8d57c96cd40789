"""Remainders of counts, against counts told one by one."""

import itertools
import unittest

from serialhouse.errors import TooFar
from serialhouse.formats import Format
from serialhouse.joining import again, behind, either
from serialhouse.lengths import Lengths
from serialhouse.remainders import (
    around, empty_lengths, judge_remainders, judge_rest, leave_alike, lengths_with, remainders, remainders_hold,
    rest_holds, round_holds)
from serialhouse.rows import counts
from serialhouse.rules import is_rule, least_rule
from tests.helper import ANY, EMPTY, EVEN, FORMS, NOAA, NONE, ONES, changed, is_int, row_of, some_formats
from tests.test_lengths import told

PAIRS = Format(2, ((0, "a", 1), (1, "a", 0), (1, "b", 0)), (0,))
SOME = list(FORMS) + [PAIRS] + some_formats(30, 21) + some_formats(12, 22, size=6, letters="abc")
UNDERS = (1, 2, 3, 4, 6, 7, 10)
MOST = 420


def row_left(form, under, many):
    return [number % under for number in counts(form, many)]


def least_round(form, under):
    """The pair that around tells, one beyond what is told if it raises."""
    try:
        return around(form, under)
    except TooFar:
        return 0, 2001


def pair_of(row, size):
    """The least pair, found by trying: windows of a row that are the same."""
    for behind_it in range(1, len(row) - size):
        window = row[behind_it:behind_it + size]
        for first in range(behind_it):
            if row[first:first + size] == window:
                return first, behind_it - first
    return None


class RowTest(unittest.TestCase):
    def test_examples(self):
        self.assertEqual(remainders(NOAA, 2, 6), (1, 0, 1, 1, 0, 1))
        self.assertEqual((around(NOAA, 2), around(NOAA, 3)), ((0, 3), (0, 8)))
        with self.assertRaises(TooFar) as caught:
            around(NOAA, 3, most=7)
        self.assertEqual(caught.exception.most, 7)
        self.assertEqual(around(PAIRS, 2), (1, 1))

    def test_remainders(self):
        for form in SOME:
            for under in UNDERS + (1000,):
                for many in (0, 1, 2, 50):
                    self.assertEqual(remainders(form, under, many), tuple(row_left(form, under, many)))
        self.assertEqual(remainders(form=NOAA, under=1000, many=2000), tuple(row_left(NOAA, 1000, 2000)))

    def test_around(self):
        for form in SOME:
            for under in UNDERS:
                row = row_left(form, under, 130 + form.size)
                right = pair_of(row, form.size)
                if right is None or sum(right) > 120:
                    continue
                self.assertEqual(around(form, under), right)
                self.assertEqual(around(form, under, sum(right)), right)
                with self.assertRaises(TooFar) as caught:
                    around(form, under, most=sum(right) - 1)
                self.assertEqual(caught.exception.most, sum(right) - 1)

    def test_too_far(self):
        for form in SOME:
            with self.assertRaises(TooFar) as caught:
                around(form, 1, 0)
            self.assertEqual(caught.exception.most, 0)
            self.assertEqual(around(form, 1, 1), (0, 1))
        far = [form for form in some_formats(40, 23, size=6, letters="abc") if self.is_far(form)]
        self.assertGreater(len(far), 3)

    def is_far(self, form):
        try:
            first, turn = around(form, 997)
        except TooFar as error:
            self.assertEqual(error.most, 2000)
            row = row_left(form, 997, 2000 + form.size)
            self.assertEqual(len({tuple(row[at:at + form.size]) for at in range(2001)}), 2001)
            return True
        self.assertLessEqual(first + turn, 2000)
        return False

    def test_least_pair_of_long_tails(self):
        # Ten letters, then a ring of three and one of four states, one of which is told twice.
        ahead = Format(11, tuple((state, "a", state + 1) for state in range(10)), (10,))
        ring = Format(3, ((0, "a", 1), (1, "a", 2), (2, "a", 0)), (0,))
        other = Format(4, ((0, "b", 1), (1, "b", 2), (2, "b", 3), (3, "b", 0)), (0,))
        form = behind(ahead, either(ring, other))
        self.assertEqual(around(form, 5), pair_of(row_left(form, 5, 100), form.size))
        self.assertEqual(around(form, 5), (11, 12))


class RoundTest(unittest.TestCase):
    def test_pairs(self):
        for form in SOME[:40]:
            for under in UNDERS:
                row = row_left(form, under, 130)
                for first, turn in itertools.product((0, 1, 2, 5), (1, 2, 3, 4, 6, 8, 12)):
                    right = all(row[at] == row[at + turn] for at in range(first, first + 60))
                    self.assertIs(round_holds(form, under, ("round", first, turn)), right)

    def test_great_pairs(self):
        self.assertIs(round_holds(NOAA, 2, ("round", 5, 3 * 10 ** 20)), True)
        self.assertIs(round_holds(NOAA, 2, ("round", 5, 3 * 10 ** 20 + 1)), False)
        for form in SOME[:40]:
            for under in UNDERS:
                first, turn = around(form, under)
                for more, times in ((0, 1), (0, 10 ** 20), (10 ** 29, 1), (10 ** 29, 10 ** 25), (10 ** 58, 10 ** 50)):
                    self.assertIs(round_holds(form, under, ("round", first + more, turn * times)), True)
                    if turn > 1:
                        self.assertIs(round_holds(form, under, ("round", first + more, turn * times + 1)), False)
                if first > 0:
                    self.assertIs(round_holds(form, under, ("round", first - 1, turn * 10 ** 20)), False)

    def test_any_values(self):
        paper = ("round", 0, 3)
        for thing in list(ANY) + changed(paper, 24, 400):
            right = (type(thing) is tuple and len(thing) == 3 and thing[0] == "round" and is_int(thing[1])
                     and is_int(thing[2], 1) and thing[2] % 3 == 0)
            self.assertIs(round_holds(NOAA, 2, thing), right, thing)
        for thing in (("round", 0, 0), ("round", -1, 3), ("round", True, 3), ("round", 0, True), ["round", 0, 3],
                      ("never", 0, 3), ("round", 0, 3, 0), ("round", "0", 3)):
            self.assertIs(round_holds(NOAA, 2, thing), False)
        self.assertIs(round_holds(NONE, 2, ("round", 0, True)), False)
        self.assertIs(round_holds(NONE, 2, ("round", 0, 1)), True)


class RestTest(unittest.TestCase):
    def test_examples(self):
        lot = lengths_with(NOAA, 2, 0)
        self.assertEqual((told(lot), lot.at(2)), (((), 0, 3, (1,)), 7))
        self.assertTrue(lot == Lengths((), 0, 3, (1,)))
        self.assertEqual(judge_rest(NOAA, 8, 4), ("never", 0, 12))
        self.assertEqual(told(lengths_with(PAIRS, 2, 1)), ((0,), 1, 1, ()))

    def test_lengths_with(self):
        for form in SOME:
            for under in UNDERS:
                row = row_left(form, under, MOST)
                if sum(least_round(form, under)) > MOST // 2:
                    continue
                for rest in range(under):
                    lot = lengths_with(form, under, rest)
                    self.assertEqual([at for at in range(MOST) if at in lot], [at for at in range(MOST) if row[at] == rest])
                    self.assertEqual(told(lot), told(Lengths(*told(lot))))

    def test_lengths_with_too_far(self):
        # Remainders 0 and 3 by 4 have a lesser pair of their own, but none is told if around raises.
        for form in SOME:
            for under in UNDERS:
                pair = least_round(form, under)
                for rest in range(under):
                    with self.assertRaises(TooFar) as caught:
                        lengths_with(form, under, rest, most=sum(pair) - 1)
                    self.assertEqual(caught.exception.most, sum(pair) - 1)
                    if sum(pair) < 2001:
                        lengths_with(form, under, rest, sum(pair))
        with self.assertRaises(TooFar):
            lengths_with(NOAA, 8, 4, 11)
        self.assertEqual(told(lengths_with(NOAA, 8, 4, 12)), ((), 0, 1, ()))

    def test_judge_rest(self):
        for form in SOME:
            for under in UNDERS:
                pair = least_round(form, under)
                for rest, most in itertools.product(range(under), (0, 1, 2, 5, sum(pair) - 1, sum(pair), 200)):
                    row = row_left(form, under, most)
                    if rest in row:
                        right = "at", row.index(rest)
                    elif sum(pair) > most:
                        with self.assertRaises(TooFar) as caught:
                            judge_rest(form, under, rest, most)
                        self.assertEqual(caught.exception.most, most)
                        continue
                    else:
                        right = "never", pair[0], pair[1]
                    paper = judge_rest(form, under, rest, most=most)
                    self.assertEqual(paper, right)
                    self.assertIs(rest_holds(form, under, rest, paper), True)

    def test_at_is_told_where_around_raises(self):
        self.assertEqual(judge_rest(NOAA, 8, 0, most=5), ("at", 4))
        with self.assertRaises(TooFar):
            judge_rest(NOAA, 8, 0, most=4)
        with self.assertRaises(TooFar):
            judge_rest(NOAA, 8, 4, most=11)

    def is_right(self, form, under, rest, thing):
        if type(thing) is not tuple:
            return False
        row = row_left(form, under, 300)
        if len(thing) == 2 and thing[0] == "at":
            return is_int(thing[1]) and (thing[1] < 300 and row[thing[1]] == rest)
        if len(thing) != 3 or thing[0] != "never" or not is_int(thing[1]) or not is_int(thing[2], 1):
            return False
        first, turn = thing[1:]
        if first + turn > 150:
            return False
        return all(row[at] == row[at + turn] for at in range(first, 100)) and rest not in row[:first + turn]

    def test_rest_holds(self):
        for form in SOME[:30]:
            for under in (1, 2, 3, 8):
                for rest in range(under):
                    paper = judge_rest(form, under, rest)
                    for thing in [paper] + changed(paper, 25, 20) + changed(("never", 0, 3), 26, 10):
                        if type(thing) is tuple and any(type(part) is int and part >= 300 for part in thing):
                            continue
                        self.assertIs(rest_holds(form, under, rest, thing), self.is_right(form, under, rest, thing), thing)
        for thing in ANY:
            self.assertIs(rest_holds(NOAA, 8, 4, thing), False)

    def test_rest_holds_far(self):
        self.assertIs(rest_holds(NOAA, 2, 0, ("at", 3 * 10 ** 29 + 1)), True)
        self.assertIs(rest_holds(NOAA, 2, 0, ("at", 3 * 10 ** 29)), False)
        self.assertIs(rest_holds(NOAA, 2, 1, ("at", 3 * 10 ** 58)), True)
        self.assertIs(rest_holds(NOAA, 2, 0, ("at", True)), False)
        self.assertIs(rest_holds(NOAA, 2, 1, ("at", 0)), True)
        self.assertIs(rest_holds(NOAA, 2, 1, ("at", -1)), False)
        self.assertIs(rest_holds(NOAA, 8, 4, ("never", 0, 12)), True)
        self.assertIs(rest_holds(NOAA, 8, 4, ("never", 7, 24)), True)
        self.assertIs(rest_holds(NOAA, 8, 4, ("never", 0, 13)), False)
        self.assertIs(rest_holds(NOAA, 8, 4, ("never", False, 12)), False)
        self.assertIs(rest_holds(NOAA, 8, 4, ("never", 19988, 12)), True)
        self.assertIs(rest_holds(NOAA, 8, 4, ("never", 8, 19992)), True)
        self.assertIs(rest_holds(NOAA, 8, 4, ("never", 19989, 12)), False)
        self.assertIs(rest_holds(NOAA, 8, 4, ("never", 0, 12 * 10 ** 20)), False)
        self.assertIs(rest_holds(NOAA, 8, 4, ("at", 4)), False)


class EmptyTest(unittest.TestCase):
    def test_examples(self):
        self.assertEqual(told(empty_lengths(PAIRS)), ((), 0, 2, (1,)))
        self.assertEqual(told(empty_lengths(NONE)), ((), 0, 1, (0,)))
        self.assertEqual(told(empty_lengths(EMPTY)), ((), 1, 1, (0,)))
        self.assertEqual(told(empty_lengths(form=ONES)), ((), 0, 1, ()))

    def test_against_counts(self):
        for form in SOME + some_formats(60, 27, size=6, letters="a"):
            lot = empty_lengths(form)
            row = counts(form, 120)
            self.assertEqual([at for at in range(120) if at in lot], [at for at in range(120) if row[at] == 0])
            self.assertEqual(told(lot), told(Lengths(*told(lot))))

    def test_rings_of_unlike_lengths(self):
        form = NONE
        for letter, size in zip("abcd", (3, 4, 5, 7)):
            moves = tuple((state, letter, (state + 1) % size) for state in range(size))
            form = either(form, Format(size, moves, (0,)))
        lot = empty_lengths(form)
        row = counts(form, 1000)
        self.assertEqual([at for at in range(1000) if at in lot], [at for at in range(1000) if row[at] == 0])
        self.assertEqual((lot.first, lot.around), (0, 420))


class LikeTest(unittest.TestCase):
    def pairs(self):
        return list(itertools.product(FORMS + (PAIRS,), FORMS + (PAIRS,))) + list(
            zip(some_formats(60, 28), some_formats(60, 29)))

    def test_examples(self):
        self.assertIs(leave_alike(NOAA, PAIRS, 1), True)
        self.assertEqual(judge_remainders(NOAA, PAIRS, 2), ("apart", 2))

    def test_against_counts(self):
        for one, other in self.pairs():
            for under in (1, 2, 3, 4):
                mine, yours = row_left(one, under, 60), row_left(other, under, 60)
                apart = [at for at in range(60) if mine[at] != yours[at]]
                self.assertIs(leave_alike(one, other, under), not apart)
                paper = judge_remainders(one, other, under)
                if apart:
                    self.assertEqual(paper, ("apart", apart[0]))
                else:
                    self.assertEqual(paper[0], "alike")
                    self.assertEqual([term % under for term in row_of(paper[1], 60)], mine)
                self.assertIs(remainders_hold(one, other, under, paper), True)

    def test_alike_though_rows_are_not(self):
        two = Format(1, ((0, "a", 0), (0, "b", 0), (0, "c", 0)), (0,))
        self.assertIs(leave_alike(two, ONES, 2), True)
        self.assertEqual(judge_remainders(two, ONES, 3)[0], "apart")
        for rule in (((1,), (1,)), ((1,), (3,)), ((-1,), (-5,)), ((7, -1), (0, 1)), ((3, 5, 7), (0, 0, 9)),
                     ((1, 1, 1, 1), (10 ** 50, 0, 1, 10 ** 59)), ((1, 1), (2, 1)), ((-1, 1), (0, 1))):
            self.assertIs(remainders_hold(two, ONES, 2, ("alike", rule)), True, rule)
        for rule in (((), ()), ((2,), (1,)), ((1,), (2,)), ((1, 1), (1, 1)), ((1, 1, 1, 0), (0, 0, 0, 1))):
            self.assertIs(remainders_hold(two, ONES, 2, ("alike", rule)), False, rule)

    def test_rules_for_both(self):
        # The rule has to be right for each of both formats.
        rule = least_rule(NOAA)
        self.assertIs(remainders_hold(NOAA, NOAA, 5, ("alike", rule)), True)
        self.assertIs(remainders_hold(NOAA, PAIRS, 5, ("alike", rule)), False)
        self.assertIs(remainders_hold(PAIRS, NOAA, 5, ("alike", rule)), False)
        self.assertIs(remainders_hold(NOAA, NOAA, 5, ("alike", ((6, -3, 8), (7, -4, 15)))), False)
        self.assertIs(remainders_hold(NOAA, NOAA, 5, ("alike", ((6, -3), (-4, 11)))), True)
        # Unlike only from the eighth term on.
        longer = ((1, 2, 3, 5, 8, 13, 21, 35), (0,) * 7 + (1,))
        self.assertIs(remainders_hold(NOAA, NOAA, 1000, ("alike", longer)), False)

    def is_right(self, one, other, under, thing):
        if type(thing) is not tuple or len(thing) != 2:
            return False
        if thing[0] == "alike":
            if not is_rule(thing[1]):
                return False
            row = [term % under for term in row_of(thing[1], 60)]
            return row == row_left(one, under, 60) == row_left(other, under, 60)
        if thing[0] != "apart" or not is_int(thing[1]) or thing[1] > 300:
            return False
        return row_left(one, under, 301)[thing[1]] != row_left(other, under, 301)[thing[1]]

    def test_any_values(self):
        for one, other in self.pairs()[:90:3]:
            for under in (2, 3):
                paper = judge_remainders(one, other, under)
                for thing in list(ANY) + changed(paper, 30, 25):
                    if type(thing) is tuple and any(is_int(part, 301) for part in thing):
                        continue
                    self.assertIs(remainders_hold(one, other, under, thing), self.is_right(one, other, under, thing))

    def test_far_lengths(self):
        self.assertIs(remainders_hold(NOAA, ONES, 2, ("apart", 3 * 10 ** 29 + 1)), True)
        self.assertIs(remainders_hold(NOAA, ONES, 2, ("apart", 3 * 10 ** 29)), False)
        self.assertIs(remainders_hold(EVEN, ONES, 2, ("apart", 10 ** 58 + 1)), True)
        self.assertIs(remainders_hold(EVEN, ONES, 2, ("apart", True)), False)
        self.assertIs(remainders_hold(NONE, ONES, 2, ("apart", 0)), True)
        self.assertIs(remainders_hold(NONE, ONES, 2, ("apart", -1)), False)

    def test_returned_formats(self):
        one, other = again(either(PAIRS, NOAA)), behind(NOAA, PAIRS)
        for under in (2, 7, 1000):
            paper = judge_remainders(one, other, under)
            self.assertIs(remainders_hold(one, other, under, paper), True)
            self.assertIs(leave_alike(one, other, under), row_left(one, under, 60) == row_left(other, under, 60))
