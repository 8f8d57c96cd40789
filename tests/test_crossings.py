"""Never fewer words from some length on, against counts told one by one."""

import itertools
import math
import unittest

from serialhouse.crossings import Crossing, judge_never_fewer, never_fewer_from, never_fewer_holds
from serialhouse.errors import Doubles, TooFar, TooMany
from serialhouse.formats import Format
from serialhouse.growth import degree
from serialhouse.growthchecks import growth_holds
from serialhouse.joining import behind, either
from serialhouse.pieces import pieces, step_of
from serialhouse.rows import counts
from tests.helper import AA, ANY, EMPTY, EVEN, FORMS, NOAA, NONE, ONES, changed, is_int, some_formats, some_tame_formats
from tests.test_pieces import AB, STAIRS, ring

SOME = [form for form in list(FORMS) + [AB, STAIRS] + some_formats(60, 51) + some_tame_formats(
    100, 52) + some_tame_formats(40, 53, size=6, letters="abc") if degree(form) is not None]
PAIRS = list(zip(SOME, SOME[7:] + SOME[:7])) + list(zip(SOME, SOME[20:] + SOME[:20]))
BEYOND = 900


def leads(one, other, many):
    return [mine - yours for mine, yours in zip(counts(one, many), counts(other, many))]


def differences(one, other, row, first):
    """The differences at a length, as the words tell them."""
    step = math.lcm(step_of(one), step_of(other))
    many = max(degree(one), degree(other), 0) + 1
    told = [row[first + place * step] for place in range(many)]
    out = []
    while told:
        out.append(told[0])
        told = [later - now for now, later in zip(told, told[1:])]
    return tuple(out)


def is_paper(one, other, thing):
    """What the document says of papers, for firsts below 500."""
    if degree(one) is None or degree(other) is None or type(thing) is not tuple or len(thing) != 3:
        return False
    step = math.lcm(step_of(one), step_of(other))
    base = max(pieces(one)[0], pieces(other)[0])
    row = leads(one, other, BEYOND)

    def is_row(first, told):
        if not is_int(first) or not base <= first <= 10000 or type(told) is not tuple:
            return False
        return all(type(each) is int for each in told) and told == differences(one, other, row, first)

    if thing[0] == "again":
        return is_row(*thing[1:]) and thing[2][0] < 0 and max(thing[2][1:], default=0) <= 0
    if thing[0] != "from" or not is_int(thing[1]) or type(thing[2]) is not tuple or len(thing[2]) != step:
        return False
    if not all(type(pair) is tuple and len(pair) == 2 and is_row(*pair) and min(pair[1]) >= 0 for pair in thing[2]):
        return False
    if [pair[0] % step for pair in thing[2]] != list(range(step)):
        return False
    return all(lead >= 0 for lead in row[thing[1]:max(pair[0] for pair in thing[2])])


def many_words(size):
    """All words of so many letters a, b and c."""
    return Format(size + 1, tuple((state, letter, state + 1) for state in range(size) for letter in "abc"), (size,))


class JudgedTest(unittest.TestCase):
    def test_examples(self):
        self.assertIs(never_fewer_holds(AB, EVEN, ("from", 0, ((0, (0, 2)), (1, (2, 2))))), True)
        self.assertIs(never_fewer_holds(EVEN, AB, ("again", 1, (-2, -2))), True)
        self.assertEqual(judge_never_fewer(AB, EVEN)[:2], ("from", 0))
        self.assertEqual(judge_never_fewer(EVEN, AB)[0], "again")
        self.assertEqual((never_fewer_from(AB, EVEN), never_fewer_from(EVEN, AB)), (0, None))

    def test_against_counts(self):
        seen = set()
        for one, other in PAIRS:
            row = leads(one, other, 600)
            below = [length for length, lead in enumerate(row) if lead < 0]
            paper = judge_never_fewer(one, other)
            self.assertIs(never_fewer_holds(one, other, paper), True)
            self.assertIs(is_paper(one, other, paper), True)
            if below and below[-1] > 500:
                self.assertEqual(paper[0], "again")
                self.assertIsNone(never_fewer_from(one, other))
            else:
                right = below[-1] + 1 if below else 0
                self.assertEqual(paper[:2], ("from", right))
                self.assertEqual(never_fewer_from(one, other), right)
                seen.add(right)
        self.assertGreater(len(seen), 4)

    def test_like_formats(self):
        for form in SOME:
            self.assertEqual(never_fewer_from(form, form), 0)
            self.assertEqual(never_fewer_from(form, NONE), 0)

    def test_far_crossings(self):
        one, other = behind(AB, ring(1, "c")), behind(many_words(5), behind(ring(1, "d"), ring(1, "e")))
        row = leads(one, other, 4000)
        right = max(length for length, lead in enumerate(row) if lead < 0) + 1
        self.assertEqual((never_fewer_from(one, other), 400 < right < 1000), (right, True))
        paper = judge_never_fewer(one, other)
        self.assertIs(never_fewer_holds(one, other, paper), True)
        self.assertIs(never_fewer_holds(one, other, ("from", right - 1, paper[2])), False)
        self.assertIs(never_fewer_holds(one, other, ("from", right + 1, paper[2])), True)
        back = judge_never_fewer(other, one)
        self.assertEqual(back[0], "again")
        self.assertIs(never_fewer_holds(other, one, back), True)

    def test_rests_apart(self):
        # At even lengths the one has more words from far on, at odd ones the other has.
        one = either(behind(AB, ring(2, "c")), ring(2, "d", (1,)))
        for other in (one, ring(2, "a", (1,)), either(behind(ring(2, "a"), ring(2, "b")), ring(1, "c"))):
            row = leads(one, other, 600)
            paper = judge_never_fewer(one, other)
            self.assertIs(is_paper(one, other, paper), True)
            self.assertEqual(paper[0], "again" if min(row[500:]) < 0 else "from")
            paper = judge_never_fewer(other, one)
            self.assertIs(is_paper(other, one, paper), True)


class RaisedTest(unittest.TestCase):
    def test_doubles(self):
        doubling = Format(1, ((0, "a", 0), (0, "b", 0)), (0,))
        for one, other, first in ((NOAA, AB, NOAA), (AB, NOAA, NOAA), (NOAA, doubling, NOAA), (doubling, NOAA, doubling)):
            for call in (judge_never_fewer, never_fewer_from):
                with self.assertRaises(Doubles) as caught:
                    call(one, other)
                self.assertIs(growth_holds(first, caught.exception.paper), True)
            paper = judge_never_fewer(AB, EVEN)
            self.assertIs(never_fewer_holds(one, other, paper), False)
        # The first one of both that doubles is told: words of two letters there, of one here.
        with self.assertRaises(Doubles) as caught:
            judge_never_fewer(doubling, Format(1, ((0, "c", 0), (0, "d", 0)), (0,)))
        self.assertIs(growth_holds(doubling, caught.exception.paper), True)

    def test_too_many(self):
        seven, nine, eleven = ring(7, "a"), ring(9, "a"), ring(11, "a")
        for one, other in ((seven, nine), (nine, seven), (eleven, ring(6, "a"))):
            for call in (judge_never_fewer, never_fewer_from):
                with self.assertRaises(TooMany) as caught:
                    call(one, other)
                self.assertEqual(caught.exception.most, 60)
        self.assertEqual(judge_never_fewer(ring(12, "a"), ring(5, "a"))[0], "again")
        rows = tuple((rest, (lead,)) for rest, lead in enumerate(leads(seven, NONE, 63)))
        self.assertIs(never_fewer_holds(seven, nine, ("from", 0, rows)), False)
        self.assertIs(never_fewer_holds(seven, nine, ("again", 9, (-1,))), False)
        with self.assertRaises(Doubles):
            judge_never_fewer(either(seven, nine), NOAA)

    def test_too_far(self):
        one = behind(AB, ring(1, "c"))
        far = behind(many_words(9), behind(ring(1, "d"), ring(1, "e")))
        for mine, yours in ((one, far), (far, one)):
            for call in (judge_never_fewer, never_fewer_from):
                with self.assertRaises(TooFar) as caught:
                    call(mine, yours)
                self.assertEqual(caught.exception.most, 10000)

    def test_again_is_told_though_another_rest_is_far(self):
        # At even lengths the first one has fewer words for ever, at odd ones more from beyond what is told.
        plain = behind(ring(2, "a"), behind(ring(2, "b"), ring(2, "c")))
        one = behind(Format(2, ((0, "f", 1),), (1,)), plain)
        far = either(behind(many_words(9), behind(ring(2, "d"), ring(2, "e"))), ring(2, "f"))
        paper = judge_never_fewer(one, far)
        self.assertEqual(paper[0], "again")
        self.assertIs(never_fewer_holds(one, far, paper), True)

    def test_firsts_to_ten_thousand(self):
        # Leads n - 19, told from any length on: firsts beyond 10,000 are in no paper.
        one = AB
        other = either(ring(1, "a"), ring(1, "b"))
        for first, right in ((10000, True), (10001, False), (3, True)):
            row = leads(one, other, 10003)
            told = ("from", 0, ((first, differences(one, other, row, first)),))
            self.assertIs(never_fewer_holds(one, other, told), right)
            back = ("again", first, tuple(-each for each in told[2][0][1]))
            self.assertIs(never_fewer_holds(other, one, back), right)


    def test_far_rest_ahead_of_a_near_one(self):
        # At even lengths the lead is below 0 until far beyond what is told, at odd ones there are no words at all.
        one = behind(ring(2, "a"), behind(ring(2, "b"), ring(2, "c")))
        far = behind(many_words(10), behind(ring(2, "d"), ring(2, "e")))
        with self.assertRaises(TooFar):
            judge_never_fewer(one, far)

    def test_firsts_as_far_as_can_be(self):
        # So many words of fourteen letters, then e's: from there on as many at each length.
        for many, is_told in ((10000, True), (10001, True), (10002, False)):
            other = behind(first_words(many), ring(1, "e"))
            self.assertEqual(counts(other, 16)[12:], (0, 0, many, many))
            for one, yours in ((AB, other), (other, AB)):
                if not is_told:
                    self.assertRaises(TooFar, judge_never_fewer, one, yours)
            if is_told:
                self.assertEqual(judge_never_fewer(AB, other), ("from", many - 1, ((many - 1, (0, 1)),)))
            if many == 10000:
                self.assertEqual(judge_never_fewer(other, AB), ("again", 10000, (-1, -1)))
            else:
                self.assertRaises(TooFar, judge_never_fewer, other, AB)


def first_words(many):
    """The first so many words of fourteen letters a and b: those less than the one that tells many by twos."""
    figures = f"{many:014b}"
    moves = []
    for place, figure in enumerate(figures):
        # As told so far, or less already: then any letters are let.
        moves += [(place, "ab"[int(figure)], place + 1), (place + 15, "a", place + 16), (place + 15, "b", place + 16)]
        if figure == "1":
            moves.append((place, "a", place + 16))
    return Format(30, tuple(sorted(moves)), (29,))


class PaperTest(unittest.TestCase):
    def test_any_values(self):
        for one, other in PAIRS[::9]:
            for thing in ANY:
                self.assertIs(never_fewer_holds(one, other, thing), is_paper(one, other, thing), thing)

    def test_changed_papers(self):
        seen = set()
        for number, (one, other) in enumerate(PAIRS):
            paper = judge_never_fewer(one, other)
            for thing in changed(paper, number, 12):
                if type(thing) is tuple and thing and self.is_far(thing):
                    continue
                right = is_paper(one, other, thing)
                seen.add((paper[0], right and thing != paper))
                self.assertIs(never_fewer_holds(one, other, thing), right, thing)
        self.assertEqual(seen, set(itertools.product(("from", "again"), (True, False))))

    def is_far(self, thing):
        """Whether a first is beyond what the checks here go through."""
        if isinstance(thing, tuple):
            return any(self.is_far(part) for part in thing)
        return is_int(thing, 500)

    def test_right_differences_of_other_signs(self):
        for paper in (("again", 0, (0, 2)), ("again", 1, (2, 2)), ("from", 0, ((0, (0, 2)), (1, (2, 2))))):
            self.assertIs(never_fewer_holds(AB, EVEN, paper), paper[0] == "from")
        for paper in (("again", 0, (0, -2)), ("from", 10 ** 9, ((0, (0, -2)), (1, (-2, -2))))):
            self.assertIs(never_fewer_holds(EVEN, AB, paper), False)
        self.assertIs(never_fewer_holds(EVEN, AB, ("again", 2, (-2, -2))), True)

    def test_step_of_sixty(self):
        one, other = ring(12, "a"), ring(5, "a")
        for mine, yours in ((one, other), (other, one), (one, behind(other, NONE))):
            paper = judge_never_fewer(mine, yours)
            self.assertIs(never_fewer_holds(mine, yours, paper), True)
            self.assertIs(is_paper(mine, yours, paper), True)

    def test_leads_of_nought_are_not_below(self):
        # 0, 1, 0, 1, 6, ..: never below 0, though differences are, until the third one.
        crossing = Crossing(AB, EVEN)
        crossing.stride = 1
        self.assertEqual(crossing.walk(0, (0, 1, -2, 4)), ((2, (0, 1, 6, 4)), -1))
        self.assertEqual(crossing.walk(0, (0, 0, -2, 4)), ((4, (4, 16, 14, 4)), 3))

    def test_rests_and_starts(self):
        # The start is 1, the step 3: rows are told rest by rest.
        for one, other in ((ring(3, "a"), EMPTY), (either(ring(3, "a"), AA), NONE), (ring(5, "b", (2,)), EMPTY)):
            paper = judge_never_fewer(one, other)
            self.assertIs(is_paper(one, other, paper), True)
            self.assertEqual(paper[0], "from")
            self.assertEqual(judge_never_fewer(other, one)[0], "again")
            self.assertIs(is_paper(other, one, judge_never_fewer(other, one)), True)

    def test_lengths(self):
        rows = ((0, (0, 2)), (1, (2, 2)))
        for length, right in ((0, True), (1, True), (7, True), (10 ** 59, True), (-1, False), (True, False), ("0", False)):
            self.assertIs(never_fewer_holds(AB, EVEN, ("from", length, rows)), right)

    def test_rows(self):
        for rows in (((0, (0, 2)),), ((1, (2, 2)), (0, (0, 2))), ((0, (0, 2)), (1, (2, 2)), (2, (2, 2))),
                     ((0, (0, 2)), (1, (2,))), ((0, (0, 2)), (1, (2, 2, 0))), ((0, (False, 2)), (1, (2, 2))),
                     ((0, (0, 2)), (True, (2, 2))), ((0, (0, 2)), (1, [2, 2])), [(0, (0, 2)), (1, (2, 2))],
                     ((0, (0, 2)), (-1, (2, 2))), ((0, (0, 2)), (3, (2, 2))), ()):
            self.assertIs(never_fewer_holds(AB, EVEN, ("from", 0, rows)), False, rows)
        self.assertIs(never_fewer_holds(AB, EVEN, ("from", 0, ((4, (4, 2)), (101, (102, 2))))), True)

    def test_starts(self):
        # Below the start of either one no first is let: the counts there are told by no polynomial.
        self.assertEqual(pieces(AA)[0], 3)
        self.assertIs(never_fewer_holds(AA, EMPTY, ("from", 1, ((2, (1,)),))), False)
        self.assertIs(never_fewer_holds(AA, EMPTY, ("from", 1, ((3, (0,)),))), True)
        self.assertIs(never_fewer_holds(AA, EMPTY, ("from", 0, ((3, (0,)),))), False)
        self.assertIs(never_fewer_holds(EMPTY, AA, ("again", 2, (-1,))), False)
        self.assertIs(never_fewer_holds(AA, ONES, ("again", 2, (0,))), False)
        self.assertIs(never_fewer_holds(AA, ONES, ("again", 3, (-1,))), True)
