"""Rings: words that lead from a useful state back to it; and how many of them ways can go through."""

from serialhouse.exploring import first_led
from serialhouse.reaching import reached
from serialhouse.usefulmoves import useful_moves


class Rings:
    """The useful moves of a format, and beyond: for each useful state a dict of the states reached by some moves."""

    def __init__(self, form):
        self.form = form
        self.moves = useful_moves(form)
        table = {state: [goal for _, goal in self.moves[state]] for state in form.useful}
        self.beyond = {state: reached(table[state], table) for state in form.useful}

    def is_on_ring(self, state):
        """Whether a useful state has a ring."""
        return state in self.beyond[state]

    def many_reached(self, state):
        """How many states a useful state reaches, by no moves or more."""
        return len(self.beyond[state]) + (0 if self.is_on_ring(state) else 1)

    def inner_moves(self, state):
        """The pairs (letter, goal) of the moves of a useful state by which rings begin."""
        return [(letter, goal) for letter, goal in self.moves[state] if state in self.beyond[goal]]

    def doubling_state(self):
        """The first state at which rings begin by two moves, None if there is none."""
        for state in self.form.useful:
            if len(self.inner_moves(state)) > 1:
                return state
        return None

    def ring(self, state, move):
        """A ring at a useful state that begins by an inner move and is as short as can be."""
        return move[0] + self.word_to(move[1], {state: True})

    def word_to(self, start, goals):
        """The first word that leads from a state to one of a dict of states, one of which can be reached."""
        return first_led(
            start, self.form.letters, lambda state, letter: self.form.step(state, letter),
            lambda state: state in goals)

    def ring_states(self, state):
        """The states that a state can reach, and that can reach it."""
        return [goal for goal in self.beyond[state] if state in self.beyond[goal]]

    def levels(self):
        """A dict from useful states to pairs (level, depth), for a format that does not double.

        The level is how many rings of unlike states a way from there can go through, one behind the other; the
        depth how many moves it can take at one level, without a ring.
        """
        told = {}
        # A state that is reached, and cannot reach back, reaches fewer states: so it is told first.
        for state in sorted(list(self.form.useful), key=lambda each: self.many_reached(each)):
            behind = [goal for goal in self.beyond[state] if state not in self.beyond[goal]]
            level = max([0] + [told[goal][0] for goal in behind])
            if self.is_on_ring(state):
                told[state] = (level + 1, 0)
            else:
                goals = [told[goal] for _, goal in self.moves[state]]
                told[state] = (level, max([0] + [depth + 1 for high, depth in goals if high == level]))
        return told
