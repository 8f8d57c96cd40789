"""Putting states together from which the same words lead to ends (J. Hopcroft 1971)."""


class Parting:
    """Blocks of states, cut until the states of each block have moves into the same blocks.

    Only the smaller one of two new blocks is looked at, unless the whole one still waits for it: so a state is
    looked at no oftener than its block can be halved.
    """

    def __init__(self):
        self.blocks = []
        self.places = {}
        self.queue = []
        self.waiting = {}

    def put(self, states):
        """Makes a block of states; its number."""
        number = len(self.blocks)
        self.blocks.append({state: True for state in states})
        for state in states:
            self.places[state] = number
        return number

    def wait(self, number):
        """Puts a block among those to be looked at."""
        self.waiting[number] = True
        self.queue.append(number)

    def next_block(self):
        """The states of a block that waits to be looked at; it waits no longer."""
        number = self.queue.pop()
        del self.waiting[number]
        return list(self.blocks[number])

    def cut(self, states):
        """Cuts each block into its states among these and the others."""
        lots = {}
        for state in states:
            lots.setdefault(self.places[state], []).append(state)
        for number, lot in lots.items():
            if len(lot) < len(self.blocks[number]):
                self.cut_off(number, lot)

    def cut_off(self, number, lot):
        """Makes a block of its own of some states of a block."""
        block = self.blocks[number]
        for state in lot:
            del block[state]
        new = self.put(lot)
        if number in self.waiting or len(lot) <= len(block):
            self.wait(new)
        else:
            self.wait(number)


def parted(states, ends, sources):
    """A dict from states to the numbers of their blocks, equal ones where the same words lead on to ends.

    sources tells for each state the pairs (letter, state) of the moves that lead to it. Both blocks have to be
    looked at in the beginning, as states may have no move by a letter.
    """
    parting = Parting()
    for block in ([state for state in states if state in ends], [state for state in states if state not in ends]):
        if block:
            parting.wait(parting.put(block))
    while parting.queue:
        by_letter = {}
        for state in parting.next_block():
            for letter, source in sources[state]:
                by_letter.setdefault(letter, []).append(source)
        for letter in by_letter:
            parting.cut(by_letter[letter])
    return parting.places
