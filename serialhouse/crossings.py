"""Whether one format has never fewer words of a length than another one from some length on; neither may double."""

from math import lcm

from serialhouse.errors import TooFar, TooMany
from serialhouse.growth import degree
from serialhouse.pieces import differences_of, pieces, step_of
from serialhouse.rows import counts
from serialhouse.values import is_below, is_integer, is_just, is_tuple_of

MOST_STEP = 60
MOST_FIRST = 10000


class Crossing:
    """Two formats that do not double: both steps together, how many differences are told, and the greater start."""

    def __init__(self, one, other):
        self.one = one
        self.other = other
        self.stride = lcm(step_of(one), step_of(other))
        self.many = max(degree(one), degree(other), 0) + 1
        self.base = max(pieces(one)[0], pieces(other)[0])

    def leads(self, many):
        """The leads of the first so many lengths."""
        return [mine - yours for mine, yours in zip(counts(self.one, many), counts(self.other, many))]

    def differences(self, leads, length):
        """The differences at a length, by the leads told."""
        return differences_of(leads[length::self.stride][:self.many])

    def walk(self, first, differences):
        """What comes of the differences at a length, step by step, until they keep their signs.

        That is the length and the differences there, None if it is beyond what is told; and the last length ahead
        of it at which the lead is below 0, -1 if there is none.
        """
        last = -1
        while first <= MOST_FIRST:
            if is_never_below(differences) or is_below_again(differences):
                return (first, differences), last
            if differences[0] < 0:
                last = first
            first += self.stride
            differences = moved_on(differences)
        return None, last


def moved_on(differences):
    """The differences a step later."""
    return tuple([now + later for now, later in zip(differences, differences[1:] + (0,))])


def is_never_below(differences):
    """Whether none of some differences is below 0: then no later lead is."""
    return min(differences) >= 0


def is_below_again(differences):
    """Whether the lead is below 0, and the others are not above 0: then all later leads are below 0."""
    return differences[0] < 0 and max(differences[1:] + (0,)) <= 0


def crossing_of(one, other):
    """The crossing of two formats; raises Doubles for the first one that doubles, then TooMany."""
    step = lcm(step_of(one), step_of(other))
    if step > MOST_STEP:
        raise TooMany(MOST_STEP)
    return Crossing(one, other)


def judge_never_fewer(one, other):
    """A paper: ("from", length, rows) with the least length, or ("again", first, differences).

    Raises Doubles, then TooMany, then TooFar.
    """
    crossing = crossing_of(one, other)
    leads = crossing.leads(crossing.base + crossing.stride * crossing.many)
    rows = []
    lasts = [length for length in range(crossing.base) if leads[length] < 0]
    is_far = False
    for first in first_of_rests(crossing):
        row, last = crossing.walk(first, crossing.differences(leads, first))
        if row is not None and row[1][0] < 0:
            return "again", row[0], row[1]
        is_far = is_far or row is None
        rows.append(row)
        lasts.append(last)
    if is_far:
        raise TooFar(MOST_FIRST)
    return "from", max(lasts) + 1, tuple(rows)


def first_of_rests(crossing):
    """For each rest by the step the least length with it that is not below the starts."""
    return [
        crossing.base + (rest - crossing.base) % crossing.stride for rest in range(crossing.stride)]


def never_fewer_from(one, other):
    """The least length from which on the first format has never fewer words, None if there is none.

    Raises Doubles, then TooMany, then TooFar.
    """
    paper = judge_never_fewer(one, other)
    return paper[1] if paper[0] == "from" else None


def never_fewer_holds(one, other, thing):
    """Whether any value is a paper that the first format has never fewer words, or fewer again and again."""
    if degree(one) is None or degree(other) is None or not is_tuple_of(thing, 3):
        return False
    if lcm(step_of(one), step_of(other)) > MOST_STEP:
        return False
    crossing = Crossing(one, other)
    if thing[0] == "from":
        return is_never_fewer(crossing, thing[1], thing[2])
    return thing[0] == "again" and are_told_right(crossing, [thing[1:]]) and is_below_again(thing[2])


def is_never_fewer(crossing, length, rows):
    """Whether any values are a length from 0 on, and rows for all rests, by which no lead from there on is below 0."""
    if not is_integer(length) or length < 0 or not is_tuple_of(rows, crossing.stride):
        return False
    if not are_told_right(crossing, rows) or not all([is_never_below(row[1]) for row in rows]):
        return False
    if any([row[0] % crossing.stride != rest for rest, row in enumerate(rows)]):
        return False
    top = max([row[0] for row in rows])
    return all([lead >= 0 for lead in crossing.leads(top)[length:]])


def are_told_right(crossing, rows):
    """Whether any values are pairs of a length that can be told, and the differences there."""
    if not all([is_tuple_of(row, 2) and is_below(row[0], MOST_FIRST + 1) for row in rows]):
        return False
    if any([row[0] < crossing.base for row in rows]):
        return False
    leads = crossing.leads(max([row[0] for row in rows]) + crossing.stride * crossing.many)
    return all([is_just(row[1], crossing.differences(leads, row[0])) for row in rows])
