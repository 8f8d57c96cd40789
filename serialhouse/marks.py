"""Marks of the useful states of two formats, as unlike as can be, round by round."""

from serialhouse.usefulmoves import useful_moves


def goals_of(form):
    """For each state the states to which its useful moves lead, None for one that is not useful."""
    useful = {state: True for state in form.useful}
    return [
        [goal for _, goal in moves] if state in useful else None
        for state, moves in enumerate(useful_moves(form))]


def end_keys(form, goals):
    """For each state whether it is an end, None for one that is not useful."""
    return [None if row is None else form.is_end(state) for state, row in enumerate(goals)]


def onward_keys(form, goals, marks):
    """For each state whether it is an end, and which marks the goals of its moves have; None if it is not useful."""
    return [
        None if row is None else (form.is_end(state), tuple(sorted([marks[goal] for goal in row])))
        for state, row in enumerate(goals)]


def numbered(one, other):
    """A pair of tuples: the keys of two lists numbered in the order in which they come up, None as it is."""
    numbers = {None: None}
    for key in one + other:
        if key not in numbers:
            numbers[key] = len(numbers) - 1
    return tuple([numbers[key] for key in one]), tuple([numbers[key] for key in other])


def rounds_of(one, other):
    """All rounds of marks until further ones would part nothing more."""
    mine = goals_of(one)
    yours = goals_of(other)
    rounds = [numbered(end_keys(one, mine), end_keys(other, yours))]
    while True:
        last = rounds[-1]
        onward = numbered(onward_keys(one, mine, last[0]), onward_keys(other, yours, last[1]))
        # Marks are numbered in one order only, so they are the same if they part the same states.
        if onward == last:
            return rounds
        rounds.append(onward)


def parting_index(rounds):
    """The index of the first round in which both states 0 have unlike items, None if there is none."""
    for index, (mine, yours) in enumerate(rounds):
        if mine[0] != yours[0]:
            return index
    return None
