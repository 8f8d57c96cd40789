"""Sheets: states with any number of moves for a state and a letter."""

from serialhouse.errors import BadSheet
from serialhouse.parts import wrong_part
from serialhouse.texts import read_parts, text_of


class Sheet:
    """States 0 to size less 1, moves between them, and ends; its words are those with a reading."""

    def __init__(self, size, moves, ends):
        wrong = wrong_part(size, moves, ends, False)
        if wrong is not None:
            raise BadSheet(wrong)
        self.size = size
        self.moves = moves
        self.ends = ends
        self.letters = "".join(sorted({letter for _, letter, _ in moves}))
        self._goals = goal_table(moves)
        self._ends = {end: True for end in ends}

    def goals(self, state, letter):
        """The ascending tuple of the states to which moves lead from a state by a letter."""
        return self._goals.get((state, letter), ())

    def is_end(self, state):
        """Whether a state is an end."""
        return state in self._ends

    def __eq__(self, other):
        return (isinstance(other, Sheet) and self.size == other.size
                and self.moves == other.moves and self.ends == other.ends)

    def __str__(self):
        return str(text_of("sheet", self.size, self.moves, self.ends))

    @classmethod
    def read(cls, text):
        """The sheet that any value is the text of; raises BadText."""
        size, moves, ends = read_parts("sheet", text, False)
        return cls(size, moves, ends)


def goal_table(moves):
    """A dict from (state, letter) to the ascending tuple of the states to which ascending moves lead."""
    table = {}
    for state, letter, goal in moves:
        table.setdefault((state, letter), []).append(goal)
    return {key: tuple(goals) for key, goals in table.items()}
