"""Formats made from others, all of them told as least ones."""

from serialhouse.errors import BadLetters
from serialhouse.exploring import letters_of, pair_step
from serialhouse.formats import Format
from serialhouse.leastforms import format_of, least_form, least_of
from serialhouse.sheets import Sheet
from serialhouse.values import is_tuple_of
from serialhouse.words import is_letter


def both(one, other):
    """The words that two formats have in common."""
    return paired(one, other, lambda mine, yours: mine and yours)


def either(one, other):
    """The words of two formats together."""
    return paired(one, other, lambda mine, yours: mine or yours)


def without(one, other):
    """The words of the first format that are none of the second one."""
    return paired(one, other, lambda mine, yours: mine and not yours)


def paired(one, other, is_kept):
    """The least format of the words that is_kept takes, by whether each of two formats has them."""
    return least_of(
        (0, 0), letters_of(one, other), lambda pair, letter: pair_step(one, other, pair, letter),
        lambda pair: is_kept(one.is_end(pair[0]), other.is_end(pair[1])))


def behind(one, other):
    """Each word of the first format with each word of the second one behind it."""
    return least_of(
        (0, starts_behind(one, 0)), letters_of(one, other),
        lambda key, letter: step_behind(one, other, key, letter),
        lambda key: any([other.is_end(state) for state in key[1]]))


def starts_behind(one, state):
    """The states of the second format at which one is when a word of the first one may be at its end."""
    return (0,) if one.is_end(state) else ()


def step_behind(one, other, key, letter):
    """Where a letter leads from a state of the first format, or None, and states of the second one."""
    state = None if key[0] is None else one.step(key[0], letter)
    goals = steps(other, key[1], letter) + list(starts_behind(one, state))
    if state is None and not goals:
        return None
    return state, tuple(sorted(set(goals)))


def steps(form, states, letter):
    """The states to which a letter leads from some."""
    goals = [form.step(state, letter) for state in states]
    return [goal for goal in goals if goal is not None]


def again(form):
    """No words or more of a format, one behind the other."""
    return least_of(
        ((0,), True), form.letters, lambda key, letter: step_again(form, key, letter),
        lambda key: key[1])


def step_again(form, key, letter):
    """Where a letter leads from states in a word, and whether words that are whole may end there."""
    goals = steps(form, key[0], letter)
    if not goals:
        return None
    is_whole = any([form.is_end(goal) for goal in goals])
    if is_whole:
        goals.append(0)
    return tuple(sorted(set(goals))), is_whole


def backward(form):
    """The words of a format written backward."""
    # A sheet begins in one state, so a new state 0 has the moves of all ends; the others are one greater.
    moves = [(goal + 1, letter, state + 1) for state, letter, goal in form.moves]
    moves += [(0, letter, state + 1) for state, letter, goal in form.moves if form.is_end(goal)]
    ends = (0, 1) if form.is_end(0) else (1,)
    return format_of(Sheet(form.size + 1, tuple(sorted(set(moves))), ends))


def renamed(form, pairs):
    """The words of a format with other letters; raises BadLetters for pairs that do not tell unlike ones."""
    letters = exchanged_letters(form.letters, pairs)
    moves = sorted([(state, letters[letter], goal) for state, letter, goal in form.moves])
    return least_form(Format(form.size, tuple(moves), form.ends))


def exchanged_letters(letters, pairs):
    """A dict from letters to those in their place; raises BadLetters for any value that does not tell unlike ones."""
    if not are_letter_pairs(pairs):
        raise BadLetters(pairs)
    behind_of = {ahead: after for ahead, after in pairs}
    told = {letter: behind_of.get(letter, letter) for letter in letters}
    if len(set(list(told.values()))) < len(told):
        raise BadLetters(pairs)
    return told


def are_letter_pairs(thing):
    """Whether any value is a tuple of pairs of letters, no letter twice ahead, none twice behind."""
    if not isinstance(thing, tuple):
        return False
    if not all([is_tuple_of(pair, 2) and is_letter(pair[0]) and is_letter(pair[1]) for pair in thing]):
        return False
    aheads = [pair[0] for pair in thing]
    afters = [pair[1] for pair in thing]
    return len(set(aheads)) == len(thing) and len(set(afters)) == len(thing)
