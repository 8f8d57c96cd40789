"""Findings about remainders, growth and shares: those of the parts 7 to 9."""

from serialhouse.crossings import never_fewer_holds
from serialhouse.errors import Doubles, TooFar
from serialhouse.findingparts import name_of_finding, parts_read
from serialhouse.growthchecks import growth_holds
from serialhouse.limits import limits_hold, thin_holds
from serialhouse.pieces import pieces
from serialhouse.remainders import empty_lengths, leave_alike, lengths_with, remainders_hold, round_holds
from serialhouse.shares import share_at
from serialhouse.values import can_be_told, is_below, is_integer, is_just
from serialhouse.walks import are_letters_for

# The kinds of the parts behind the first one: the text of a format, or any value.
KINDS = {
    "round": "F---", "lengths": "F---", "empty lengths": "F-", "left alike": "FF-", "left apart": "FF--",
    "growth": "F-", "never fewer": "FF-", "pieces": "F--", "share": "F----", "limits": "F--", "thin": "F--",
    "thick": "F---"}


def is_under(thing):
    """Whether any value is an integer from 1 on, by which counts can be divided."""
    return is_integer(thing) and thing >= 1


def is_round(form, under, first, around):
    """("round", F, under, first, around)."""
    return is_under(under) and round_holds(form, under, ("round", first, around))


def are_lengths_with(form, under, rest, lot):
    """("lengths", F, under, rest, lot)."""
    if not is_under(under) or not is_below(rest, under):
        return False
    try:
        told = lengths_with(form, under, rest)
    except TooFar:
        return False
    return is_lot(lot, told)


def is_lot(thing, lot):
    """Whether any value is the tuple of the four parts of a lot, by its least pair."""
    return is_just(thing, (lot.few, lot.first, lot.around, lot.rests))


def are_empty_lengths(form, lot):
    """("empty lengths", F, lot)."""
    return is_lot(lot, empty_lengths(form))


def are_left_alike(one, other, under):
    """("left alike", F, G, under)."""
    return is_under(under) and leave_alike(one, other, under)


def are_left_apart(one, other, under, length):
    """("left apart", F, G, under, length)."""
    return is_under(under) and remainders_hold(one, other, under, ("apart", length))


def is_growth(form, paper):
    """("growth", F, paper)."""
    return growth_holds(form, paper)


def is_never_fewer(one, other, paper):
    """("never fewer", F, G, paper)."""
    return never_fewer_holds(one, other, paper)


def are_pieces(form, start, polynomials):
    """("pieces", F, start, polynomials)."""
    try:
        told = pieces(form)
    except Doubles:
        return False
    return is_just((start, polynomials), told)


def is_share(form, letters, length, top, bottom):
    """("share", F, letters, length, top, bottom)."""
    if not are_letters_for(form, letters) or not can_be_told(length):
        return False
    return is_just((top, bottom), share_at(form, letters, length))


def are_limits(form, letters, paper):
    """("limits", F, letters, paper)."""
    return are_letters_for(form, letters) and limits_hold(form, letters, paper)


def is_thin_by(form, letters, words):
    """("thin", F, letters, words)."""
    return are_letters_for(form, letters) and thin_holds(form, letters, ("thin", words))


def is_thick_by(form, letters, states, end):
    """("thick", F, letters, states, end)."""
    return are_letters_for(form, letters) and thin_holds(form, letters, ("thick", states, end))


HOLDING = {
    "round": is_round, "lengths": are_lengths_with, "empty lengths": are_empty_lengths, "left alike": are_left_alike,
    "left apart": are_left_apart, "growth": is_growth, "never fewer": is_never_fewer, "pieces": are_pieces,
    "share": is_share, "limits": are_limits, "thin": is_thin_by, "thick": is_thick_by}


def growth_finding_holds(thing):
    """Whether any value is a finding of the parts 7 to 9 that holds."""
    name = name_of_finding(thing)
    if name not in KINDS:
        return False
    parts = parts_read(KINDS[name], thing[1:])
    holds = HOLDING[name]
    return parts is not None and holds(*parts)
