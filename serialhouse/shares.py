"""Shares of all words over some letters, and the closed lots of states at which walks stay."""

from math import lcm

from serialhouse.lengthcodes import power
from serialhouse.ratios import fraction, minus, plus
from serialhouse.rows import count
from serialhouse.walks import comes_of_lot, lots_of_states, round_of_lot, turns_of_lot


def share_at(form, letters, length):
    """How many words of a length a format has, divided by how many there are over the letters."""
    return fraction(count(form, length), power(len(letters), length))


def closed_lots(form, letters):
    """The ascending tuple of the pairs (states, round) of all closed lots."""
    return tuple([(states, round_of_lot(form, states)) for states in lots_of_states(form, letters)])


def turns(form, letters, states):
    """The tuple of the turns of the states of a closed lot, in order."""
    return turns_of_lot(form, states)


def round_of(form, letters):
    """The least common multiple of the rounds of all closed lots, 1 if there are none."""
    told = 1
    for _, around in closed_lots(form, letters):
        told = lcm(told, around)
    return told


def comes_to(form, letters, states):
    """The share of the walks that come into a closed lot."""
    total = (0, 1)
    for row in comes_of_lot(form, letters, states):
        total = plus(total, row[0])
    return total


def lost_share(form, letters):
    """The share of the walks that are lost at last."""
    left = (1, 1)
    for states in lots_of_states(form, letters):
        left = minus(left, comes_to(form, letters, states))
    return left
