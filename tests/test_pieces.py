"""Counts told piece by piece, against counts told one by one."""

import itertools
import math
import unittest
from fractions import Fraction

from serialhouse.errors import Doubles
from serialhouse.formats import Format
from serialhouse.growth import degree
from serialhouse.growthchecks import growth_holds
from serialhouse.joining import behind, either
from serialhouse.pieces import piece_count, pieces, step_of
from serialhouse.rows import counts
from tests.helper import AA, EMPTY, EVEN, FORMS, NOAA, ONES, reach, some_formats, some_tame_formats

AB = Format(2, ((0, "a", 0), (0, "b", 1), (1, "b", 1)), (0, 1))
STAIRS = Format(6, tuple(sorted(
    [(state, "a", state) for state in range(6)] + [(state, "b", state + 1) for state in range(5)])), (5,))
SOME = [form for form in list(FORMS) + [AB, STAIRS] + some_formats(150, 41) + some_tame_formats(
    200, 42) + some_tame_formats(80, 43, size=6, letters="abc") if degree(form) is not None]


def ring(size, letter, ends=(0,)):
    return Format(size, tuple((state, letter, (state + 1) % size) for state in range(size)), ends)


def step_by_rings(form):
    """The least common multiple of the lengths of rings that come to no state twice, gone through one by one."""
    useful = set(form.useful)
    step = 1
    for start in useful:
        ways = [(start,)]
        for way in ways:
            for state, _, goal in form.moves:
                if state == way[-1] and goal in useful:
                    if goal == start:
                        step = math.lcm(step, len(way))
                    elif goal not in way:
                        ways.append(way + (goal,))
    return step


def value(polynomial, length):
    return sum(Fraction(*factor) * length ** power for power, factor in enumerate(polynomial))


class PieceTest(unittest.TestCase):
    def test_examples(self):
        self.assertEqual(pieces(AB), (0, (((1, 1), (1, 1)),)))
        self.assertEqual(pieces(EVEN), (0, (((1, 1),), ())))
        self.assertEqual(pieces(Format(1, (), ())), (0, ((),)))
        self.assertEqual(piece_count(AB, 10 ** 12), 10 ** 12 + 1)

    def test_named(self):
        self.assertEqual(pieces(EMPTY), (1, ((),)))
        self.assertEqual(pieces(AA), (3, ((),)))
        self.assertEqual(pieces(ONES), (0, (((1, 1),),)))
        # Six rings one behind the other: n letters with five b's among them.
        factors = [Fraction(1)]
        for less in range(5):
            factors = [ahead - less * now for ahead, now in zip([0] + factors, factors + [0])]
        right = tuple((Fraction(factor, 120).numerator, Fraction(factor, 120).denominator) for factor in factors)
        self.assertEqual(pieces(STAIRS), (0, (right,)))
        self.assertEqual(right[0], (0, 1))

    def test_steps(self):
        for form in SOME:
            self.assertEqual(step_of(form), step_by_rings(form))
            self.assertEqual(len(pieces(form)[1]), step_of(form))

    def test_against_counts(self):
        for form in SOME:
            start, polynomials = pieces(form)
            row = counts(form, 120)
            told = [value(polynomials[length % len(polynomials)], length) for length in range(120)]
            self.assertEqual(told[start:], list(row[start:]), str(form))
            if start > 0:
                self.assertNotEqual(told[start - 1], row[start - 1])
            for length in range(120):
                self.assertEqual(piece_count(form, length), row[length])

    def test_form_of_polynomials(self):
        for form in SOME:
            start, polynomials = pieces(form)
            self.assertIs(type(start), int)
            for polynomial in polynomials:
                self.assertLessEqual(len(polynomial), max(1, degree(form) + 1))
                self.assertTrue(not polynomial or polynomial[-1][0] != 0)
                for top, bottom in polynomial:
                    self.assertTrue(type(top) is int and type(bottom) is int and bottom >= 1)
                    self.assertEqual(math.gcd(top, bottom), 1)
            self.assertEqual(max(map(len, polynomials)), degree(form) + 1 if degree(form) >= 0 else 0)

    def test_far_lengths(self):
        for form in SOME[::5]:
            start, polynomials = pieces(form)
            for length in (10 ** 12, 10 ** 12 - 1, 10 ** 11 + 7):
                right = value(polynomials[length % len(polynomials)], length)
                self.assertEqual(piece_count(form=form, length=length), right)
                self.assertIs(type(piece_count(form, length)), int)

    def test_starts(self):
        # A word of its own ahead of the ring, and one that goes on without it.
        form = either(Format(4, ((0, "a", 1), (1, "a", 2), (2, "a", 3), (3, "a", 3)), (3,)), Format(
            8, tuple((state, "b", state + 1) for state in range(7)), (7,)))
        self.assertEqual(pieces(form), (8, (((1, 1),),)))
        self.assertEqual([piece_count(form, length) for length in range(9)], [0, 0, 0, 1, 1, 1, 1, 2, 1])

    def test_returned_formats(self):
        forms = [
            behind(ring(4, "a"), behind(ring(3, "b"), ring(5, "c"))),
            either(behind(ring(4, "a"), ring(6, "b")), behind(ring(5, "d"), AA)),
            behind(STAIRS, ring(12, "c", (3, 7)))]
        for form, step in zip(forms, (60, 60, 12)):
            self.assertEqual(step_of(form), step)
            start, polynomials = pieces(form)
            row = counts(form, 420)
            self.assertEqual(self.least_start(row, polynomials), start)
            for length in range(420):
                self.assertEqual(piece_count(form, length), row[length])
                if length >= start:
                    self.assertEqual(value(polynomials[length % step], length), row[length])

    def least_start(self, row, polynomials):
        """One more than the last length at which a count is not told."""
        unlike = [length for length, number in enumerate(row) if value(polynomials[length % len(polynomials)], length) != number]
        return unlike[-1] + 1 if unlike else 0

    def test_doubling(self):
        self.assertIn(None, [degree(form) for form in (NOAA,)])
        for form in [NOAA] + [form for form in some_formats(40, 44) if degree(form) is None]:
            for call in (lambda: pieces(form), lambda: step_of(form), lambda: piece_count(form, 3)):
                with self.assertRaises(Doubles) as caught:
                    call()
                self.assertIs(growth_holds(form, caught.exception.paper), True)
                self.assertEqual(caught.exception.paper[0], "doubles")

    def test_states_that_are_not_useful(self):
        # A ring of three states that no word goes through, and one that nothing leads to.
        form = Format(6, ((0, "a", 0), (0, "b", 1), (1, "a", 2), (2, "a", 3), (3, "a", 1), (4, "a", 5), (5, "a", 4)), (0, 4))
        self.assertEqual(step_of(form), 1)
        self.assertEqual(pieces(form), (0, (((1, 1),),)))
        self.assertEqual(reach(form, 0), {0, 1, 2, 3})

    def test_rests(self):
        for first, second in itertools.product((2, 3, 4), (2, 3, 5)):
            form = either(behind(ring(first, "a"), ring(second, "b")), Format(
                8, tuple((state, "c", state + 1) for state in range(7)), (4, 7)))
            row = counts(form, 200)
            self.assertEqual(pieces(form)[0], self.least_start(row, pieces(form)[1]))
            self.assertEqual([piece_count(form, length) for length in range(200)], list(row))
            self.assertEqual(step_of(form), math.lcm(first, second))
