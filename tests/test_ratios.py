"""Fractions, against those of Python's own library."""

import random
import unittest
from fractions import Fraction
from math import gcd

from serialhouse.ratios import fraction, fraction_text, is_fraction, is_less, minus, over, plus, times
from tests.helper import ANY


def pair(number):
    return number.numerator, number.denominator


def some_fractions(many, seed):
    source = random.Random(seed)
    made = [Fraction(0), Fraction(1), Fraction(-1), Fraction(10 ** 60 - 1, 10 ** 59 + 7), Fraction(1, 3), Fraction(-2, 3)]
    for _ in range(many):
        most = source.choice((3, 20, 10 ** 60 - 1))
        made.append(Fraction(source.randint(-most, most), source.randint(1, most)))
    return made


class RatioTest(unittest.TestCase):
    def test_any_value(self):
        more = ((0, 1), (0, 2), (1, 0), (2, 1), (2, 4), (-1, 2), (1, -2), (3, 9), (True, 1), (1, True), (False, 1),
                (1, 2, 3), [1, 2], (1,), ("1", 2), (None, 1), ((1, 2), 3), (10 ** 60, 3), (10 ** 60, 15), (-7, 1), (0, -1))
        for thing in ANY + more:
            told = (type(thing) is tuple and len(thing) == 2 and all(type(part) is int for part in thing)
                    and thing[1] >= 1 and gcd(*thing) == 1)
            self.assertIs(is_fraction(thing), told, thing)

    def test_made(self):
        for top in range(-12, 13):
            for bottom in list(range(-12, 0)) + list(range(1, 13)):
                self.assertEqual(fraction(top, bottom), pair(Fraction(top, bottom)))
                self.assertIs(is_fraction(fraction(top, bottom)), True)
        self.assertEqual(fraction(0, -5), (0, 1))
        self.assertEqual(fraction(6 * 10 ** 60, -4 * 10 ** 59), (-15, 1))

    def test_sums_and_products(self):
        some = some_fractions(40, 351)
        for one in some:
            for other in some:
                self.assertEqual(plus(pair(one), pair(other)), pair(one + other))
                self.assertEqual(minus(pair(one), pair(other)), pair(one - other))
                self.assertEqual(times(pair(one), pair(other)), pair(one * other))
                if other:
                    self.assertEqual(over(pair(one), pair(other)), pair(one / other))
                self.assertIs(is_less(pair(one), pair(other)), one < other)

    def test_text(self):
        for each in some_fractions(60, 352):
            self.assertEqual(fraction_text(pair(each)), str(each))
        self.assertEqual(fraction_text((-1, 2)), "-1/2")
        self.assertEqual(fraction_text((-7, 1)), "-7")
        self.assertEqual(fraction_text((0, 1)), "0")
        # Python itself writes no more than 4300 figures.
        self.assertEqual(fraction_text((-10 ** 5000, 3)), "-1" + "0" * 5000 + "/3")
