"""Words of one length, ascending: which letter stands at a place is told by the counts behind it."""

from serialhouse.rows import counts_at_ends, goals_by_state, longer


class Layers:
    """The counts of all states of a format, for as many lengths from 0 on as were asked for."""

    def __init__(self, form):
        self.form = form
        self.goal_rows = goals_by_state(form)
        self.layers = [counts_at_ends(form)]
        self.moves = [[] for _ in range(form.size)]
        for state, letter, goal in form.moves:
            self.moves[state].append((letter, goal))

    def at(self, length):
        """The counts of all states for a length."""
        while len(self.layers) <= length:
            self.layers.append(longer(self.goal_rows, self.layers[-1]))
        return self.layers[length]

    def count_of(self, length):
        """How many words of a length the format has."""
        return self.at(length)[0]

    def shorter(self, length):
        """How many words with fewer letters the format has."""
        return sum([self.count_of(less) for less in range(length)])

    def weights(self, state, length):
        """The pairs (letter, goal) of the moves of a state, and with how many words of a length each goes on."""
        behind = self.at(length - 1)
        return self.moves[state], [behind[goal] for _, goal in self.moves[state]]

    def lesser(self, text):
        """How many words as long as a text are less than it."""
        ahead = 0
        state = 0
        for at, letter in enumerate(text):
            moves, weights = self.weights(state, len(text) - at)
            ahead += sum([weights[index] for index, move in enumerate(moves) if move[0] < letter])
            state = self.form.step(state, letter)
            if state is None:
                break
        return ahead

    def word_of(self, length, index):
        """The word of a length that so many others of this length are less than."""
        letters = []
        state = 0
        for left in range(length, 0, -1):
            moves, weights = self.weights(state, left)
            at = 0
            while index >= weights[at]:
                index -= weights[at]
                at += 1
            letters.append(moves[at][0])
            state = moves[at][1]
        return "".join(letters)

    def place_of(self, number, most):
        """The length, and the index among words of this length, of the word with a number; None if longer than most."""
        for length in range(most + 1):
            if number < self.count_of(length):
                return length, number
            number -= self.count_of(length)
        return None
