"""Equations solved exactly, by integers."""

from math import gcd

from serialhouse.ratios import fraction


def solved_rows(rows):
    """The fractions that rows of integers tell: factors of as many unknowns as there are rows, and their sum.

    There has to be just one solution. Rows stay rows of integers, made as small as can be.
    """
    left = [list(row) for row in rows]
    for column in range(len(rows)):
        pivot = column
        while left[pivot][column] == 0:
            pivot += 1
        left[column], left[pivot] = left[pivot], left[column]
        solved = left[column]
        left = [
            row if place == column or row[column] == 0 else freed_row(row, solved, column)
            for place, row in enumerate(left)]
    return [fraction(row[-1], row[place]) for place, row in enumerate(left)]


def freed_row(row, other, column):
    """A row less as much of another one as leaves it nothing in a column."""
    freed = [mine * other[column] - yours * row[column] for mine, yours in zip(row, other)]
    divisor = 0
    for number in freed:
        divisor = gcd(divisor, number)
    return [number // divisor for number in freed] if divisor > 0 else freed
