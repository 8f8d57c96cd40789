"""Useful moves: those from a useful state to a useful one, along which beginnings of words lead."""


def useful_moves(form):
    """For each state the pairs (letter, goal) of its useful moves, ascending."""
    useful = {state: True for state in form.useful}
    moves = [[] for _ in range(form.size)]
    for state, letter, goal in form.moves:
        if state in useful and goal in useful:
            moves[state].append((letter, goal))
    return moves


def is_endless(form):
    """Whether a format has endlessly many words: whether useful moves lead round."""
    moves = useful_moves(form)
    sources = {state: 0 for state in form.useful}
    for state in form.useful:
        for _, goal in moves[state]:
            sources[goal] += 1
    # States to which no move is left are taken away with their moves; those on a round stay.
    waiting = [state for state in form.useful if sources[state] == 0]
    taken = 0
    while waiting:
        taken += 1
        state = waiting.pop()
        for _, goal in moves[state]:
            sources[goal] -= 1
            if sources[goal] == 0:
                waiting.append(goal)
    return taken < len(form.useful)
