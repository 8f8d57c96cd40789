"""Rows of two formats compared."""

from serialhouse.rows import count, counts
from serialhouse.rules import least_rule, obeys
from serialhouse.values import is_below, is_tuple_of


def first_unlike(one, other):
    """The first length at which the counts of two formats are unlike, None if there is none."""
    # Rows of m and of n useful states are the same if their first m + n terms are.
    many = len(one.useful) + len(other.useful)
    for length, (mine, yours) in enumerate(zip(counts(one, many), counts(other, many))):
        if mine != yours:
            return length
    return None


def have_same_rows(one, other):
    """Whether two formats have equally many words of each length."""
    return first_unlike(one, other) is None


def judge_rows(one, other):
    """A paper: ("same", rule), or ("unlike", length) with the first length."""
    length = first_unlike(one, other)
    if length is None:
        return "same", least_rule(one)
    return "unlike", length


def rows_hold(one, other, thing):
    """Whether any value is a paper that the rows of two formats are the same, or unlike."""
    if not is_tuple_of(thing, 2):
        return False
    if thing[0] == "same":
        return obeys(one, thing[1]) and obeys(other, thing[1])
    if thing[0] == "unlike":
        return is_below(thing[1], 301) and count(one, thing[1]) != count(other, thing[1])
    return False
