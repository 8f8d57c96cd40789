"""Formats: states with at most one move for a state and a letter."""

from serialhouse.errors import BadFormat
from serialhouse.parts import wrong_part
from serialhouse.reaching import useful_states
from serialhouse.sheets import Sheet
from serialhouse.texts import read_parts, text_of
from serialhouse.words import is_word


class Format:
    """States 0 to size less 1, moves between them, and ends; its words lead from state 0 to an end."""

    def __init__(self, size, moves, ends):
        wrong = wrong_part(size, moves, ends, True)
        if wrong is not None:
            raise BadFormat(wrong)
        self.size = size
        self.moves = moves
        self.ends = ends
        self.sheet = Sheet(size, moves, ends)
        self.letters = self.sheet.letters
        self.useful = useful_states(moves, ends)
        self._goals = {(state, letter): goal for state, letter, goal in moves}
        self._ends = {end: True for end in ends}

    def step(self, state, letter):
        """The state to which the move of a state by a letter leads, None if there is none."""
        return self._goals.get((state, letter))

    def led(self, word, state=0):
        """The state to which a word leads from a state, None if to none."""
        for letter in word:
            state = self._goals.get((state, letter))
            if state is None:
                return None
        return state

    def is_end(self, state):
        """Whether a state is an end; None, where nothing leads, is none."""
        return state in self._ends

    def has(self, thing):
        """Whether any value is a word of the format."""
        return is_word(thing) and self.is_end(self.led(thing))

    def __eq__(self, other):
        return (isinstance(other, Format) and self.size == other.size
                and self.moves == other.moves and self.ends == other.ends)

    def __str__(self):
        return str(text_of("format", self.size, self.moves, self.ends))

    @classmethod
    def read(cls, text):
        """The format that any value is the text of; raises BadText."""
        size, moves, ends = read_parts("format", text, True)
        return cls(size, moves, ends)
