"""Terms far on in a row, when divided: from half to half of the index (A. Bostan, R. Mori 2021).

A row is told by two polynomials, the one over the other one. Both are multiplied by what makes the lower one
have even powers only; then the even or the odd terms of the row are told by half as great indexes.
"""

from serialhouse.rules import least_rule


def count_left(form, length, under):
    """What the count of a length leaves when it is divided by under."""
    return term_left(least_rule(form), length, under)


def term_left(rule, index, under):
    """What the term at an index leaves when it is divided by under, from 0 to under less 1."""
    firsts, factors = rule
    if not factors:
        return 0
    below = [1 % under] + [-factor % under for factor in factors]
    above = multiplied([number % under for number in firsts], below, under)[:len(firsts)]
    while index > 0:
        turned = [-number % under if at % 2 == 1 else number for at, number in enumerate(below)]
        above = multiplied(above, turned, under)[index % 2::2]
        below = multiplied(below, turned, under)[::2]
        index = index // 2
    return above[0]


def multiplied(one, other, under):
    """The product of two polynomials, not empty, with factors from 0 to under less 1, told likewise.

    Both are put into one integer each, with room for the factors of the product: one multiplication is enough.
    """
    width = len(f"{len(one) * under * under:x}")
    product = packed(one, width) * packed(other, width)
    figures = f"{product:x}".zfill(width * (len(one) + len(other) - 1))
    starts = range(len(figures) - width, -1, -width)
    return [int(figures[start:start + width], 16) % under for start in starts]


def packed(factors, width):
    """The integer whose figures by 16 are the factors, the last one ahead, in so many figures each."""
    return int("".join([f"{factor:x}".zfill(width) for factor in factors[::-1]]), 16)
