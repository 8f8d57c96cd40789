"""Readings of words by sheets, and whether a sheet is read in one way."""

from serialhouse.exploring import first_led
from serialhouse.reaching import live_states
from serialhouse.sidesteps import is_apart, side_pairs


def readings(sheet, word):
    """The ascending tuple of the readings of a word."""
    return tuple(first_readings(sheet, word, None))


def first_readings(sheet, word, most):
    """The first so many readings of a word, all of them if most is None."""
    live = live_layers(sheet, word)
    told = [(0,)] if 0 in live[0] else []
    for at, letter in enumerate(word):
        told = [
            reading + (goal,)
            for reading in told for goal in sheet.goals(reading[-1], letter) if goal in live[at + 1]]
        # Each of these goes on to an end, so most of them are enough.
        told = told[:most]
    return told


def live_layers(sheet, word):
    """For each place in a word, and behind it, a dict of the states from which the rest leads to an end."""
    sources = {}
    for state, letter, goal in sheet.moves:
        sources.setdefault((letter, goal), []).append(state)
    layer = {end: True for end in sheet.ends}
    layers = [layer]
    for letter in reversed(word):
        layer = {source: True for goal in layer for source in sources.get((letter, goal), ())}
        layers.append(layer)
    return layers[::-1]


def count_readings(sheet, word):
    """How many readings a word has."""
    ways = {0: 1}
    for letter in word:
        ways = onward_ways(sheet, ways, letter)
    return ended(sheet, ways)


def onward_ways(sheet, ways, letter):
    """In how many ways a letter leads on to each state, by a dict of the ways to each state ahead of it."""
    onward = {}
    for state in ways:
        for goal in sheet.goals(state, letter):
            onward[goal] = onward.get(goal, 0) + ways[state]
    return onward


def ended(sheet, ways):
    """How many of some ways are at an end."""
    return sum([ways[state] for state in ways if sheet.is_end(state)])


def reading_counts(sheet, many):
    """For the first so many lengths, how many readings all words of this length have together."""
    ways = {0: 1}
    told = []
    for _ in range(many):
        told.append(ended(sheet, ways))
        onward = {}
        for state, _, goal in sheet.moves:
            if state in ways:
                onward[goal] = onward.get(goal, 0) + ways[state]
        ways = onward
    return tuple(told)


def judge_readings(sheet):
    """A paper: ("one", pairs), or ("two", word, reading, further) for the first word with two readings."""
    pairs = side_pairs(sheet)
    if is_apart(sheet, pairs):
        return "one", pairs
    word = first_word_of_two(sheet)
    reading, further = first_readings(sheet, word, 2)
    return "two", word, reading, further


def is_read_in_one(sheet):
    """Whether no word has two readings."""
    return is_apart(sheet, side_pairs(sheet))


def first_word_of_two(sheet):
    """The first word with two readings, None if there is none."""
    live = live_states(sheet.moves, sheet.ends)
    return first_led(
        ((0, 1),), sheet.letters, lambda key, letter: few_ways(sheet, live, key, letter),
        lambda key: ended(sheet, dict(key)) > 1)


def few_ways(sheet, live, key, letter):
    """Where a letter leads from pairs (state, ways), no more than two ways told, and only to live states."""
    onward = onward_ways(sheet, dict(key), letter)
    return tuple([(state, min(2, onward[state])) for state in sorted(list(onward)) if state in live])
