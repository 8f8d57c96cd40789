"""Leads of a format into another one: words of the second format may be left over."""

from serialhouse.barring import Barring
from serialhouse.leadtables import is_table, made_table
from serialhouse.usefulmoves import useful_moves
from serialhouse.values import is_ascending, is_below, is_integer, is_tuple_of


def is_into(one, other):
    """Whether there is a lead of the first format into the second one."""
    return barring_depth(one, other) is None


def barring_depth(one, other):
    """How many letters show, at least, that there is no lead into the second format; None if there is one."""
    return Barring(one, other).depths.get((0, 0))


def judge_into(one, other):
    """A paper: ("into", table), or ("barred", rows)."""
    if not one.useful:
        return "into", ()
    barring = Barring(one, other)
    if (0, 0) not in barring.depths:
        return "into", made_table(
            (0, 0), lambda pair: pair,
            lambda pair: steps_from(barring, pair))
    depth = barring.depths[(0, 0)]
    return "barred", tuple(sorted([
        (mine, yours, rank, barring.shorts[(mine, yours)])
        for (mine, yours), rank in barring.depths.items() if rank < depth or (mine, yours) == (0, 0)]))


def steps_from(barring, pair):
    """The steps of a row with a pair of states that is not barred."""
    given = barring.matched_at(pair)[0]
    return [(ahead, given[ahead], goals[given[ahead]]) for ahead, goals in barring.steps[pair].items()]


def into_holds(one, other, thing):
    """Whether any value is a paper that there is a lead into the second format, or that there is none."""
    if not is_tuple_of(thing, 2):
        return False
    if thing[0] == "into":
        return is_table(one, other, thing[1])
    return thing[0] == "barred" and do_rows_bar(one, other, thing[1])


def do_rows_bar(one, other, thing):
    """Whether any value is an ascending tuple of rows that bar each lead into the second format."""
    moves = useful_moves(one)
    if not isinstance(thing, tuple) or not all([is_row(one, other, moves, row) for row in thing]):
        return False
    if not is_ascending([row[:2] for row in thing]):
        return False
    ranks = {row[:2]: row[2] for row in thing}
    return (0, 0) in ranks and all([is_barred(one, other, ranks, row) for row in thing])


def is_row(one, other, moves, thing):
    """Whether any value is (s, t, rank, letters), by the useful moves of the first format."""
    if not is_tuple_of(thing, 4) or not is_below(thing[0], one.size) or not is_below(thing[1], other.size):
        return False
    if thing[0] not in one.useful or not is_integer(thing[2]) or thing[2] < 0:
        return False
    return thing[3] is None or are_letters(thing[3], [letter for letter, _ in moves[thing[0]]])


def are_letters(thing, letters):
    """Whether any value is an ascending tuple of one or more of some letters."""
    if not isinstance(thing, tuple) or not all([sign in letters for sign in thing]):
        return False
    return len(thing) > 0 and is_ascending(thing)


def is_barred(one, other, ranks, row):
    """Whether a row is barred by an end, or by fewer letters that fit than are asked for, by rows of lesser ranks."""
    mine, yours, rank, letters = row
    if letters is None:
        return one.is_end(mine) and not other.is_end(yours)
    goals = [one.step(mine, letter) for letter in letters]
    furthers = [other.step(yours, letter) for letter in other.letters]
    fitting = [
        further for further in furthers
        if further is not None and any([not is_ahead_of(ranks, (goal, further), rank) for goal in goals])]
    return len(fitting) < len(letters)


def is_ahead_of(ranks, pair, rank):
    """Whether a row with a lesser rank has a pair of states."""
    return pair in ranks and ranks[pair] < rank
