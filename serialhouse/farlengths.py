"""The length of a word with a great number, found without going from length to length.

How many words have at most so many letters is a row that obeys a rule. Its term at a length is told by what x, to
the power of the length, leaves when divided by the polynomial of the rule; such powers are squared and multiplied.
"""

from serialhouse.rules import least_rule, summed, terms


class Powers:
    """Powers of x by the polynomial of a rule, each the list of the factors of 1, x, x * x, and so on."""

    def __init__(self, rule):
        self.many = len(rule[1])
        self.taps = [(at + 1, factor) for at, factor in enumerate(rule[1]) if factor != 0]
        self.row = terms(rule, 2 * self.many)

    def term(self, power):
        """The term of the row at the index to which x is raised, whether it is left by dividing or not."""
        return sum([factor * self.row[at] for at, factor in enumerate(power)])

    def reduced(self, power):
        """What a power leaves when divided by the polynomial."""
        left = list(power)
        for at in range(len(power) - 1, self.many - 1, -1):
            top = left[at]
            for back, factor in self.taps:
                left[at - back] += top * factor
        return left[:self.many]


def far_length(form, number):
    """The length of the word with a number in an endless format, for a number that no word without letters has."""
    powers = Powers(summed(least_rule(form)))
    power = powers.reduced([0, 1])
    squares = []
    while powers.term(power) <= number:
        squares.append(power)
        power = powers.reduced(signed_product(power, power))
    length = 0
    power = [1]
    for square in squares[::-1]:
        longer = signed_product(power, square)
        length = 2 * length
        if powers.term(longer) <= number:
            length += 1
            power = powers.reduced(longer)
    return length + 1


def signed_product(one, other):
    """The product of two polynomials, not empty, with factors of any sign.

    Both are put into one integer each, with room for the factors of the product: one multiplication is enough.
    """
    many = len(one) + len(other) - 1
    width = len(f"{largest(one) * largest(other) * many:x}") + 1
    half = 8 << 4 * (width - 1)
    # Half of the room is added at each place, so that no figure is below 0.
    product = packed(one, width) * packed(other, width) + packed([half] * many, width)
    figures = f"{product:x}".zfill(width * many)
    starts = range(width * (many - 1), -1, -width)
    return [int(figures[start:start + width], 16) - half for start in starts]


def largest(factors):
    """The greatest of some factors, whatever their signs."""
    return max([abs(factor) for factor in factors])


def packed(factors, width):
    """The integer whose figures by 16 are the factors, the last one ahead, in so many figures each."""
    above = "".join([f"{max(factor, 0):x}".zfill(width) for factor in factors[::-1]])
    below = "".join([f"{max(-factor, 0):x}".zfill(width) for factor in factors[::-1]])
    return int(above, 16) - int(below, 16)
