"""Renamings: letters of one format exchanged for those of another one, so that the words are the same."""

from serialhouse.marks import rounds_of


def all_renamings(one, other):
    """The ascending tuple of all renamings of two least formats."""
    marks = rounds_of(one, other)[-1]
    told = []
    waiting = [()]
    while waiting:
        pairs = waiting.pop()
        states = matched_states(one, other, marks, pairs)
        if states is None:
            continue
        move = untold_move(one, states, pairs)
        if move is None:
            told.append(tuple(sorted(pairs)))
        else:
            waiting.extend([pairs + ((move[1], letter),) for letter in free_letters(other, states[move[0]], pairs)])
    return tuple(sorted(told))


def matched_states(one, other, marks, pairs):
    """A dict from states of the first format to those of the second one, as far as the letters told lead.

    It is None if they lead to states of unlike classes, or not to the same one each time.
    """
    states = {0: 0}
    waiting = [0]
    while waiting:
        state = waiting.pop()
        if marks[0][state] != marks[1][states[state]]:
            return None
        for ahead, behind in pairs:
            goal = one.step(state, ahead)
            further = other.step(states[state], behind)
            if (goal is None) != (further is None):
                return None
            if goal is None:
                continue
            if goal not in states:
                states[goal] = further
                waiting.append(goal)
            elif states[goal] != further:
                return None
    return states


def untold_move(one, states, pairs):
    """The state and the letter of a move from a state that was met, None if the letters of all such moves are told."""
    told = [pair[0] for pair in pairs]
    for state, letter, _ in one.moves:
        if state in states and letter not in told:
            return state, letter
    return None


def free_letters(other, state, pairs):
    """The letters of moves from a state that are not told for another letter."""
    told = [pair[1] for pair in pairs]
    return [letter for letter in other.letters if other.step(state, letter) is not None and letter not in told]
