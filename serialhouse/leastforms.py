"""Least formats: of all formats with the same words the one with the fewest states."""

from serialhouse.exploring import explored
from serialhouse.formats import Format
from serialhouse.partings import parted
from serialhouse.reaching import reached


def least_of(start, letters, move_on, is_end):
    """The least format of the words that lead from a key to one that is an end; letters ascend."""
    keys, rows = explored(start, letters, move_on)
    ends = {number: True for number, key in enumerate(keys) if is_end(key)}
    sources = [[] for _ in rows]
    for number, row in enumerate(rows):
        for letter, goal in row.items():
            sources[goal].append((letter, number))
    live = reached(list(ends), {goal: [source for _, source in pairs] for goal, pairs in enumerate(sources)})
    if 0 not in live:
        return Format(1, (), ())
    states = sorted(live)
    return put_together(states, parted(states, ends, sources), rows, ends)


def put_together(states, places, rows, ends):
    """The format whose states are the blocks of some states, which are in the order of their first words."""
    numbers = {}
    firsts = []
    for state in states:
        if places[state] not in numbers:
            numbers[places[state]] = len(firsts)
            firsts.append(state)
    moves = []
    for number, state in enumerate(firsts):
        for letter, goal in rows[state].items():
            if goal in places:
                moves.append((number, letter, numbers[places[goal]]))
    return Format(len(firsts), tuple(moves), tuple([number for number, state in enumerate(firsts) if state in ends]))


def format_of(sheet):
    """The least format with the words of a sheet."""
    return least_of(
        (0,), sheet.letters, lambda states, letter: all_goals(sheet, states, letter),
        lambda states: any([sheet.is_end(state) for state in states]))


def all_goals(sheet, states, letter):
    """The ascending tuple of the states to which a letter leads from some, None if there are none."""
    goals = tuple(sorted({goal for state in states for goal in sheet.goals(state, letter)}))
    return goals if goals else None


def least_form(form):
    """The least format with the words of a format."""
    return least_of(
        0, form.letters, lambda state, letter: form.step(state, letter),
        lambda state: form.is_end(state))
