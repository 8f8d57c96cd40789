"""Formats compared: the same words, or a first word apart."""

from serialhouse.exploring import first_led, letters_of, pair_step


class Merging:
    """States of two formats that were found side by side, put together into lots.

    A pair of one lot needs no second look: if a word were apart from there, it would be from one of the pairs
    that made the lot, which were met by words ahead.
    """

    def __init__(self):
        self.uppers = {}

    def top(self, node):
        """The node that stands for the lot of a node."""
        while node in self.uppers:
            upper = self.uppers[node]
            if upper in self.uppers:
                self.uppers[node] = self.uppers[upper]
            node = upper
        return node

    def merge(self, pair):
        """Puts the states of a pair into one lot; whether they were not in one."""
        mine = self.top(node_of(pair[0], 0))
        yours = self.top(node_of(pair[1], 1))
        if mine == yours:
            return False
        self.uppers[mine] = yours
        return True


def node_of(state, side):
    """A number for a state of the first or second format; of both, no state is the same one."""
    return -1 if state is None else 2 * state + side


def first_apart(one, other):
    """The first word of just one of two formats, None if there is none."""
    merging = Merging()

    def move_on(pair, letter):
        goal = pair_step(one, other, pair, letter)
        return goal if goal is not None and merging.merge(goal) else None

    merging.merge((0, 0))
    return first_led(
        (0, 0), letters_of(one, other), move_on, lambda pair: one.is_end(pair[0]) != other.is_end(pair[1]))


def is_same(one, other):
    """Whether two formats have the same words."""
    return first_apart(one, other) is None


def is_within(one, other):
    """Whether all words of the first format are words of the second one."""
    word = first_led(
        (0, 0), one.letters, lambda pair, letter: step_within(one, other, pair, letter),
        lambda pair: one.is_end(pair[0]) and not other.is_end(pair[1]))
    return word is None


def step_within(one, other, pair, letter):
    """Where a letter leads from a pair of states, None if the first format goes nowhere by it."""
    goal = pair_step(one, other, pair, letter)
    return None if goal is None or goal[0] is None else goal


def first_word(form):
    """The first word of a format, None if it has none."""
    return first_led(
        0, form.letters, lambda state, letter: form.step(state, letter),
        lambda state: form.is_end(state))
