"""Lots of lengths: sets of integers from 0 on that come round."""

from math import gcd, lcm

from serialhouse.errors import BadLot
from serialhouse.values import is_ascending, is_below, is_integer

# Whether a length is kept that is in neither of two lots, in the second one alone, in the first one alone, in both.
IN_BOTH = (False, False, False, True)
IN_EITHER = (False, True, True, True)
IN_FIRST_ALONE = (False, False, True, False)
IN_ONE_ALONE = (False, True, True, False)


class Lengths:
    """The lengths few, and those from first on whose remainder by around is among rests; told by its least pair."""

    def __init__(self, few, first, around, rests):
        wrong = wrong_part_of_lot(few, first, around, rests)
        if wrong is not None:
            raise BadLot(wrong)
        self.around = least_around(around, rests)
        self.rests = tuple([rest for rest in rests if rest < self.around])
        self.first = least_first(few, first, self.around, self.rests)
        self.few = tuple([length for length in few if length < self.first])
        self._few = {length: True for length in self.few}
        self._rests = {rest: True for rest in self.rests}

    def __contains__(self, length):
        if not is_integer(length) or length < 0:
            return False
        if length < self.first:
            return length in self._few
        return length % self.around in self._rests

    def __eq__(self, other):
        return (isinstance(other, Lengths) and self.few == other.few and self.first == other.first
                and self.around == other.around and self.rests == other.rests)

    def __and__(self, other):
        return joined(self, other, IN_BOTH)

    def __or__(self, other):
        return joined(self, other, IN_EITHER)

    def __sub__(self, other):
        return joined(self, other, IN_FIRST_ALONE)

    def __invert__(self):
        few = [length for length in range(self.first) if length not in self._few]
        rests = [rest for rest in range(self.around) if rest not in self._rests]
        return Lengths(tuple(few), self.first, self.around, tuple(rests))

    def is_within(self, other):
        """Whether all lengths of this lot are ones of another one."""
        return joined(self, other, IN_FIRST_ALONE).at(0) is None

    def first_apart(self, other):
        """The first length that just one of two lots has, None if there is none."""
        return joined(self, other, IN_ONE_ALONE).at(0)

    def moved(self, by):
        """The lot of these lengths, each greater by an integer from 0 on."""
        rests = sorted([(rest + by) % self.around for rest in self.rests])
        return Lengths(tuple([length + by for length in self.few]), self.first + by, self.around, tuple(rests))

    def at(self, index):
        """The length with so many lengths of the lot ahead of it, None if there is none."""
        if index < len(self.few):
            return self.few[index]
        if not self.rests:
            return None
        rounds, place = divmod(index - len(self.few), len(self.rests))
        return self.first + rounds * self.around + steps_behind_first(self)[place]

    def below(self, length):
        """How many lengths of the lot are less than an integer from 0 on."""
        if length <= self.first:
            return len([each for each in self.few if each < length])
        rounds, steps = divmod(length - self.first, self.around)
        begun = len([each for each in steps_behind_first(self) if each < steps])
        return len(self.few) + rounds * len(self.rests) + begun

    def is_endless(self):
        """Whether the lot has endlessly many lengths."""
        return len(self.rests) > 0


def wrong_part_of_lot(few, first, around, rests):
    """The name of the first part of a lot that is not as told, None if all are; any values."""
    if not isinstance(few, tuple) or not all([is_integer(length) and length >= 0 for length in few]):
        return "few"
    if not is_ascending(few):
        return "few"
    if not is_integer(first) or first < 0 or not all([length < first for length in few]):
        return "first"
    if not is_integer(around) or around < 1:
        return "around"
    if not isinstance(rests, tuple) or not all([is_below(rest, around) for rest in rests]) or not is_ascending(rests):
        return "rests"
    return None


def least_around(around, rests):
    """The least integer by which rests come round that come round by around."""
    if not rests:
        return 1
    told = {rest: True for rest in rests}
    # What comes round so many times within around has so many times as many rests as one round has.
    for times in range(gcd(len(rests), around), 1, -1):
        if around % times == 0 and all([(rest + around // times) % around in told for rest in rests]):
            return around // times
    return around


def least_first(few, first, around, rests):
    """The least integer from which on lengths come round, by those below first and by the rests from there on.

    Backward from first, both the few and the lengths that the rests would tell are gone through side by side.
    """
    left = len(few)
    rounds, rest = divmod(first, around)
    told = rounds * len(rests) + len([each for each in rests if each < rest])
    while left > 0 or told > 0:
        mine = few[left - 1] if left > 0 else -1
        yours = told_length(around, rests, told - 1) if told > 0 else -1
        if mine != yours:
            return max(mine, yours) + 1
        left -= 1
        told -= 1
    return 0


def told_length(around, rests, index):
    """The length with so many others ahead of it, of all that have a remainder among rests."""
    rounds, place = divmod(index, len(rests))
    return rounds * around + rests[place]


def steps_behind_first(lot):
    """How far behind first the lengths of one round of a lot are, ascending."""
    return sorted([(rest - lot.first) % lot.around for rest in lot.rests])


def joined(one, other, kept):
    """The lot of the lengths that are kept, by whether each of two lots has them."""
    first = max(one.first, other.first)
    around = lcm(one.around, other.around)
    few = joined_lengths(one, other, kept, 0, first)
    later = joined_lengths(one, other, kept, first, first + around)
    return Lengths(tuple(few), first, around, tuple(sorted([length % around for length in later])))


def joined_lengths(one, other, kept, low, high):
    """The lengths from low on and below high that are kept, ascending."""
    told = sorted(set(lengths_between(one, low, high) + lengths_between(other, low, high)))
    return [length for length in told if kept[(2 if length in one else 0) + (1 if length in other else 0)]]


def lengths_between(lot, low, high):
    """The lengths of a lot from low on and below high."""
    start = max(low, lot.first)
    rounds = range(start // lot.around, high // lot.around + 1)
    few = [length for length in lot.few if low <= length < high]
    later = [turn * lot.around + rest for rest in lot.rests for turn in rounds]
    return few + [length for length in later if start <= length < high]
