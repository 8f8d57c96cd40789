"""Limits of shares, and whether a format is thin: whether all of its limits are 0."""

from serialhouse.errors import NotThin
from serialhouse.exploring import first_led
from serialhouse.lengthcodes import power
from serialhouse.ratios import fraction, plus, times
from serialhouse.reaching import live_states, met_states
from serialhouse.shares import closed_lots, round_of
from serialhouse.values import is_below, is_just, is_tuple_of
from serialhouse.walks import comes_of_lot, stays_of_lot, turns_of_lot

# Stands for no state: a walk that was led there is lost.
LOST = -1


def limits(form, letters):
    """The tuple of the limits for 0, 1, .. to the round of a format less 1."""
    _, lots, stays, comes = limits_paper(form, letters)
    parts = [
        (around, come, shares_by_turn(form, states, around, stay))
        for (states, around), stay, come in zip(lots, stays, comes)]
    return tuple([limit_at(parts, rest) for rest in range(round_of(form, letters))])


def limit_at(parts, rest):
    """The limit for a rest, by the round of each closed lot, who comes there by turns, and what is at an end then."""
    total = (0, 1)
    for around, come, by_turn in parts:
        for turn in range(around):
            total = plus(total, times(come[turn][0], by_turn[(turn + rest) % around]))
    return total


def shares_by_turn(form, states, around, stay):
    """For each turn of a closed lot the share of what is there then that is at an end."""
    told = [(0, 1)] * around
    for state, turn, share in zip(states, turns_of_lot(form, states), stay):
        if form.is_end(state):
            told[turn] = plus(told[turn], times((around, 1), share))
    return told


def limits_paper(form, letters):
    """The paper ("limits", lots, stays, comes)."""
    lots = closed_lots(form, letters)
    stays = tuple([stays_of_lot(form, letters, states) for states, _ in lots])
    return "limits", lots, stays, tuple([comes_of_lot(form, letters, states) for states, _ in lots])


def limits_hold(form, letters, thing):
    """Whether any value is the paper for the limits."""
    return is_just(thing, limits_paper(form, letters))


def is_thin(form, letters):
    """Whether all limits are 0: whether no closed lot has an end."""
    return thick_part(form, letters) is None


def thick_part(form, letters):
    """The states of the first closed lot with an end, and its first end; None if there is none."""
    for states, _ in closed_lots(form, letters):
        for state in states:
            if form.is_end(state):
                return states, state
    return None


def thin_paper(form, letters):
    """A paper: ("thin", words), or ("thick", states, end)."""
    part = thick_part(form, letters)
    if part is not None:
        return "thick", part[0], part[1]
    met = met_states(form.moves)
    live = live_states(form.moves, form.ends)
    return "thin", tuple([
        hopeless_word(form, letters, live, state) if state in met else None for state in range(form.size)])


def hopeless_word(form, letters, live, start):
    """The first word from a state along which a walk is lost, or which leads where no end can be reached."""
    return first_led(
        start, letters, lambda state, letter: led_or_lost(form, state, letter),
        lambda state: state not in live)


def led_or_lost(form, state, letter):
    """The state to which a letter leads, LOST if there is no move by it."""
    goal = form.step(state, letter)
    return LOST if goal is None else goal


def thin_holds(form, letters, thing):
    """Whether any value is a paper that a format is thin, or that it is not."""
    if is_tuple_of(thing, 2) and thing[0] == "thin":
        return are_hopeless_words(form, letters, thing[1])
    if is_tuple_of(thing, 3) and thing[0] == "thick":
        lots = [states for states, _ in closed_lots(form, letters)]
        return any([is_just(thing[1], states) for states in lots]) and (
            is_below(thing[2], form.size) and thing[2] in thing[1] and form.is_end(thing[2]))
    return False


def are_hopeless_words(form, letters, thing):
    """Whether any value has for each state that is met a word that ends all hope of an end, None for each other."""
    if not is_tuple_of(thing, form.size):
        return False
    met = met_states(form.moves)
    live = live_states(form.moves, form.ends)
    return all([
        is_hopeless(form, letters, live, state, word) if state in met else word is None
        for state, word in enumerate(thing)])


def is_hopeless(form, letters, live, state, thing):
    """Whether any value is a word of the letters along which a walk is lost, or that leads where no end is reached."""
    if not isinstance(thing, str) or not all([sign in letters for sign in thing]):
        return False
    return form.led(thing, state) not in live


def thin_bound(form, letters):
    """(m, fraction): how many states there are, and 1 less 1 / k to the power of m; raises NotThin."""
    if not is_thin(form, letters):
        raise NotThin(thin_paper(form, letters))
    bottom = power(len(letters), form.size)
    return form.size, fraction(bottom - 1, bottom)
