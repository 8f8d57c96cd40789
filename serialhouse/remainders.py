"""Remainders of counts: how they come round, which lengths have which, and whether two formats leave alike."""

from serialhouse.errors import TooFar
from serialhouse.farcounts import count_left
from serialhouse.farwindows import terms_left, window_left
from serialhouse.lengths import Lengths
from serialhouse.rules import is_rule, least_rule
from serialhouse.tosses import round_from
from serialhouse.usefulmoves import useful_moves
from serialhouse.values import is_integer, is_tuple_of

# The greatest sum of first and around in a paper that a remainder is left never.
MOST_TOLD = 20000


def remainders(form, under, many):
    """The tuple of the remainders of the first so many lengths."""
    return terms_left(least_rule(form), many, under)


def around(form, under, most=2000):
    """The least pair (first, around) by which remainders come round; raises TooFar if its sum is more than most."""
    rule = least_rule(form)
    size = len(rule[1])
    # As many remainders in a row as the rule has factors tell all behind them, so the first ones that come again do.
    row = terms_left(rule, most + size, under)
    met = {}
    for length in range(most + 1):
        window = row[length:length + size]
        if window in met:
            return met[window], length - met[window]
        met[window] = length
    raise TooFar(most)


def round_holds(form, under, thing):
    """Whether any value is a paper ("round", first, around) by which remainders come round."""
    if not is_tuple_of(thing, 3) or thing[0] != "round":
        return False
    return is_pair_of_lot(thing[1], thing[2]) and does_come_round(form, under, thing[1], thing[2])


def is_pair_of_lot(first, turn):
    """Whether any values are an integer from 0 on, and one from 1 on."""
    return is_integer(first) and first >= 0 and is_integer(turn) and turn >= 1


def does_come_round(form, under, first, turn):
    """Whether remainders come round by a pair, however great."""
    rule = least_rule(form)
    return window_left(rule, first, under) == window_left(rule, first + turn, under)


def lengths_with(form, under, rest, most=2000):
    """The lot of all lengths with a remainder; raises TooFar as around does."""
    first, turn = around(form, under, most)
    row = remainders(form, under, first + turn)
    return lot_of([length for length, told in enumerate(row) if told == rest], first, turn)


def lot_of(told, first, turn):
    """The lot that comes round by a pair, by its lengths up to the end of the first round."""
    few = [length for length in told if length < first]
    return Lengths(tuple(few), first, turn, tuple(sorted([length % turn for length in told[len(few):]])))


def judge_rest(form, under, rest, most=2000):
    """A paper: ("at", length) with the first length below most, or ("never", first, around); raises TooFar."""
    row = remainders(form, under, most)
    if rest in row:
        return "at", row.index(rest)
    first, turn = around(form, under, most)
    return "never", first, turn


def rest_holds(form, under, rest, thing):
    """Whether any value is a paper that a length has a remainder, or that none has."""
    if is_tuple_of(thing, 2) and thing[0] == "at":
        return is_integer(thing[1]) and thing[1] >= 0 and count_left(form, thing[1], under) == rest
    if is_tuple_of(thing, 3) and thing[0] == "never":
        return is_never_left(form, under, rest, thing[1], thing[2])
    return False


def is_never_left(form, under, rest, first, turn):
    """Whether any values are a pair by which remainders come round, and no length has a remainder."""
    if not is_pair_of_lot(first, turn) or first + turn > MOST_TOLD:
        return False
    return does_come_round(form, under, first, turn) and rest not in remainders(form, under, first + turn)


def empty_lengths(form):
    """The lot of the lengths of which a format has no word."""
    goals = [[goal for _, goal in moves] for moves in useful_moves(form)]
    first, lots = round_from(
        form.useful[:1], lambda states: tuple(sorted({goal for state in states for goal in goals[state]})))
    empty = [length for length, states in enumerate(lots) if not any([form.is_end(state) for state in states])]
    return lot_of(empty, first, len(lots) - first)


def leave_alike(one, other, under):
    """Whether each length has the same remainder for two formats."""
    return first_unlike_left(one, other, under) is None


def first_unlike_left(one, other, under):
    """The first length that has unlike remainders for two formats, None if there is none."""
    many = len(one.useful) + len(other.useful)
    pairs = list(zip(remainders(one, under, many), remainders(other, under, many)))
    for length, (mine, yours) in enumerate(pairs):
        if mine != yours:
            return length
    return None


def judge_remainders(one, other, under):
    """A paper: ("alike", rule), or ("apart", length) with the first length."""
    length = first_unlike_left(one, other, under)
    if length is None:
        return "alike", least_rule(one)
    return "apart", length


def remainders_hold(one, other, under, thing):
    """Whether any value is a paper that two formats leave alike, or that a length is apart."""
    if not is_tuple_of(thing, 2):
        return False
    if thing[0] == "alike":
        return is_rule(thing[1]) and does_rule_leave(one, under, thing[1]) and does_rule_leave(other, under, thing[1])
    if thing[0] == "apart":
        return is_integer(thing[1]) and thing[1] >= 0 and (
            count_left(one, thing[1], under) != count_left(other, thing[1], under))
    return False


def does_rule_leave(form, under, rule):
    """Whether the terms of a rule leave the remainders of a format."""
    many = len(rule[1]) + len(form.useful)
    return terms_left(rule, many, under) == remainders(form, under, many)
