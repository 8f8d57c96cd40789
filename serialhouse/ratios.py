"""Fractions: pairs (top, bottom) without a common divisor greater than 1, bottom from 1 on."""

from math import gcd

from serialhouse.numerals import figures_of
from serialhouse.values import is_integer, is_tuple_of


def is_fraction(thing):
    """Whether any value is a fraction."""
    if not is_tuple_of(thing, 2) or not is_integer(thing[0]) or not is_integer(thing[1]):
        return False
    return thing[1] >= 1 and gcd(thing[0], thing[1]) == 1


def fraction(top, bottom):
    """The fraction of two integers, bottom not 0."""
    divisor = gcd(top, bottom)
    if bottom < 0:
        divisor = -divisor
    return top // divisor, bottom // divisor


def plus(one, other):
    """The sum of two fractions."""
    return fraction(one[0] * other[1] + other[0] * one[1], one[1] * other[1])


def minus(one, other):
    """The difference of two fractions."""
    return fraction(one[0] * other[1] - other[0] * one[1], one[1] * other[1])


def times(one, other):
    """The product of two fractions."""
    return fraction(one[0] * other[0], one[1] * other[1])


def over(one, other):
    """A fraction divided by another one, which is not 0."""
    return fraction(one[0] * other[1], one[1] * other[0])


def is_less(one, other):
    """Whether a fraction is less than another one."""
    return one[0] * other[1] < other[0] * one[1]


def fraction_text(one):
    """The text of a fraction: top/bottom, or top alone if bottom is 1."""
    top, bottom = one
    sign = "-" if top < 0 else ""
    below = "" if bottom == 1 else "/" + figures_of(bottom)
    return sign + figures_of(abs(top)) + below
