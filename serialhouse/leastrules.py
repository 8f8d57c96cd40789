"""The least rule of a row, found by a modulus and then looked at exactly.

By a modulus no rule needs more factors than the row itself does (all factors of a least rule being integers). So
if what was found by a modulus is a rule of the row, it is the least one. It is found by each great enough power
of a prime, but for the few primes that divide what the search would divide by.
"""

from serialhouse.primes import inverse_of, next_prime

FIRST_PRIME = 2 ** 31 - 1


class Search:
    """The shortest rule, by a modulus, of the terms taken so far (E. Berlekamp 1968, J. Massey 1969).

    now and old are lists of what the terms are multiplied by, from the last one backward, to leave 0; each has one
    number more than its rule has factors. old is the one ahead of the last change of length, gap terms ago, inverse
    that of what it left there.
    """

    def __init__(self, modulus):
        self.modulus = modulus
        self.taken = []
        self.length = 0
        self.now = [1]
        self.old = [1]
        self.gap = 1
        self.inverse = 1

    def take(self, term):
        """Takes one term more; False if what would have to be divided by has no inverse."""
        self.taken.append(term % self.modulus)
        left = sum([one * other for one, other in zip(self.now, self.taken[::-1])]) % self.modulus
        if left == 0:
            self.gap += 1
        elif 2 * self.length >= len(self.taken):
            self.now = self.mended(left)
            self.gap += 1
        else:
            inverse = inverse_of(left, self.modulus)
            if inverse is None:
                return False
            self.now, self.old = self.mended(left), self.now
            self.length = len(self.taken) - self.length
            self.gap = 1
            self.inverse = inverse
        return True

    def mended(self, left):
        """What is put in the place of now, which left something of the last term."""
        scale = left * self.inverse % self.modulus
        taken_off = [0] * self.gap + [scale * term for term in self.old]
        many = max(len(self.now), len(taken_off))
        kept = self.now + [0] * (many - len(self.now))
        taken_off = taken_off + [0] * (many - len(taken_off))
        return [(one - other) % self.modulus for one, other in zip(kept, taken_off)]

    def factors(self):
        """The factors of the rule, each the integer nearest to 0."""
        return tuple([nearest(-term % self.modulus, self.modulus) for term in self.now[1:]])


def nearest(number, modulus):
    """The integer nearest to 0 that leaves a number from 0 to modulus less 1."""
    return number - modulus if 2 * number > modulus else number


def factors_by(row, modulus):
    """The factors of the shortest rule of a row by a modulus, None if it cannot be told by this one."""
    search = Search(modulus)
    for term in row:
        if not search.take(term):
            return None
    return search.factors()


def do_factors_tell(row, factors):
    """Whether each term behind as many as there are factors is told by those ahead of it."""
    taps = [(at + 1, factor) for at, factor in enumerate(factors) if factor != 0]
    for index in range(len(factors), len(row)):
        if row[index] != sum([factor * row[index - back] for back, factor in taps]):
            return False
    return True


def least_of_row(row):
    """The least rule of a row, by as many terms as twice the factors of some rule of it."""
    prime = FIRST_PRIME
    modulus = prime
    while True:
        factors = factors_by(row, modulus)
        if factors is None:
            prime = next_prime(prime)
            modulus = prime
        elif do_factors_tell(row, factors):
            return tuple(row[:len(factors)]), factors
        else:
            modulus = modulus * modulus
