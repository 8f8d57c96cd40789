"""Which states can be reached from which ones."""


def reached(starts, table):
    """A dict of the states that are reached from some, table telling for a state those to which its moves lead."""
    met = {state: True for state in starts}
    waiting = list(starts)
    while waiting:
        state = waiting.pop()
        for goal in table.get(state, ()):
            if goal not in met:
                met[goal] = True
                waiting.append(goal)
    return met


def met_states(moves):
    """A dict of the states to which words lead from state 0."""
    onward = {}
    for state, _, goal in moves:
        onward.setdefault(state, []).append(goal)
    return reached([0], onward)


def live_states(moves, ends):
    """A dict of the states from which words lead to an end."""
    backward = {}
    for state, _, goal in moves:
        backward.setdefault(goal, []).append(state)
    return reached(ends, backward)


def useful_states(moves, ends):
    """The ascending tuple of the states that are met and lead to an end."""
    live = live_states(moves, ends)
    return tuple(sorted([state for state in met_states(moves) if state in live]))
