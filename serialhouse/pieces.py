"""Counts of formats that do not double, told piece by piece as values of polynomials for the length."""

from math import lcm

from serialhouse.errors import Doubles
from serialhouse.growth import judge_growth, top_level
from serialhouse.ratios import fraction, plus, times
from serialhouse.rings import Rings
from serialhouse.rows import count, counts


def step_of(form):
    """The least common multiple of the lengths of all rings that come to no state twice; raises Doubles."""
    return step_of_rings(rings_of(form))


def rings_of(form):
    """The rings of a format; raises Doubles."""
    rings = Rings(form)
    if rings.doubling_state() is not None:
        raise Doubles(judge_growth(form))
    return rings


def step_of_rings(rings):
    """The step of a format that does not double, by its rings."""
    step = 1
    for state in rings.form.useful:
        if rings.is_on_ring(state):
            step = lcm(step, len(rings.ring_states(state)))
    return step


def pieces(form):
    """(start, polynomials): from start on a polynomial for each rest of the length tells its count; raises Doubles."""
    rings = rings_of(form)
    step = step_of_rings(rings)
    many = max(1, top_level(rings.levels()))
    # From as many letters on as there are states without rings, a way has come to a ring, or to its end.
    start = len([state for state in form.useful if not rings.is_on_ring(state)])
    row = counts(form, start + step * many)
    polynomials = [() for _ in range(step)]
    for first in range(start, start + step):
        polynomials[first % step] = polynomial_by(first, step, differences_of(row[first::step][:many]))
    while start > 0 and row[start - 1] == value_at(polynomials[(start - 1) % step], start - 1):
        start -= 1
    return start, tuple(polynomials)


def differences_of(row):
    """The first term of a row, the first one of its differences, that of their differences, and so on."""
    told = []
    left = list(row)
    while left:
        told.append(left[0])
        left = [later - now for now, later in zip(left, left[1:])]
    return tuple(told)


def polynomial_by(first, step, differences):
    """The factors of the polynomial with these differences at a length, by a step."""
    told = []
    for place in range(len(differences) - 1, -1, -1):
        told = raised(told, first + place * step, step * (place + 1))
        told[0] = plus(told[0], (differences[place], 1))
    while told and told[-1] == (0, 1):
        told.pop()
    return tuple(told)


def raised(factors, less, bottom):
    """The factors of a polynomial that is multiplied by the length less an integer, and divided by bottom."""
    ahead = [(0, 1)] + [times(factor, (1, bottom)) for factor in factors]
    behind = [times(factor, fraction(-less, bottom)) for factor in factors] + [(0, 1)]
    return [plus(one, other) for one, other in zip(ahead, behind)]


def value_at(polynomial, length):
    """The value of a polynomial at a length, an integer there."""
    total = (0, 1)
    for factor in polynomial[::-1]:
        total = plus(times(total, (length, 1)), factor)
    return total[0]


def piece_count(form, length):
    """The count of a length, however great; raises Doubles."""
    start, polynomials = pieces(form)
    if length < start:
        return count(form, length)
    return value_at(polynomials[length % len(polynomials)], length)
