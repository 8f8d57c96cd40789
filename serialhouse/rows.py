"""Rows: how many words of each length lead from a state to an end."""


def goals_by_state(form):
    """For each state the states to which its moves lead, one for each move."""
    goals = [[] for _ in range(form.size)]
    for state, _, goal in form.moves:
        goals[state].append(goal)
    return goals


def counts_at_ends(form):
    """The counts of all states for the length 0."""
    return [1 if form.is_end(state) else 0 for state in range(form.size)]


def longer(goals, now):
    """The counts of all states for one letter more than those told."""
    return [sum([now[goal] for goal in row]) for row in goals]


def counts(form, many):
    """The tuple of the first so many counts of a format."""
    return counts_from(form, 0, many)


def counts_from(form, state, many):
    """The tuple of the first so many counts of a state."""
    goals = goals_by_state(form)
    now = counts_at_ends(form)
    told = []
    for _ in range(many):
        told.append(now[state])
        now = longer(goals, now)
    return tuple(told)


def count(form, length):
    """How many words of a length a format has."""
    return count_from(form, 0, length)


def count_from(form, state, length):
    """How many words of a length lead from a state to an end."""
    return counts_by_state(form, length)[state]


def counts_by_state(form, length):
    """The tuple of the counts of all states for a length."""
    goals = goals_by_state(form)
    now = counts_at_ends(form)
    for _ in range(length):
        now = longer(goals, now)
    return tuple(now)
