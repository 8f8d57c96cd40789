"""Pairs of states of two formats from which no lead into the second one goes on, and how deep that shows."""

from serialhouse.matching import matched
from serialhouse.usefulmoves import useful_moves


class Barring:
    """The pairs to which letters can lead from (0, 0), and of these the barred ones.

    steps has for each pair and each letter of the first format a dict from letters of the second one to pairs.
    depths has for each barred pair how many letters behind it, at least, show that it is barred; shorts the letters
    that do not have enough fitting ones, None where a word ends.
    """

    def __init__(self, one, other):
        self.steps = steps_of_pairs(one, other)
        self.sources = {pair: [] for pair in self.steps}
        for pair, table in self.steps.items():
            for goals in table.values():
                for goal in goals.values():
                    self.sources[goal].append(pair)
        self.depths = {}
        self.shorts = {}
        self.bar(0, {pair: None for pair in self.steps if one.is_end(pair[0]) and not other.is_end(pair[1])})
        self.bar_deeper()

    def bar(self, depth, found):
        """Bars pairs at a depth, by a dict from them to their letters."""
        for pair, letters in found.items():
            self.depths[pair] = depth
            self.shorts[pair] = letters

    def bar_deeper(self):
        """Bars all pairs that are barred by others, or by too few moves."""
        depth = 1
        looked_at = list(self.steps)
        while looked_at:
            found = {}
            for pair in looked_at:
                short = None if pair in self.depths else self.matched_at(pair)[1]
                if short is not None:
                    found[pair] = tuple(short)
            self.bar(depth, found)
            looked_at = list({source: True for pair in found for source in self.sources[pair]})
            depth += 1

    def matched_at(self, pair):
        """For each letter one of its own that leads to no barred pair, or the letters that have too few."""
        return matched({
            ahead: [behind for behind, goal in goals.items() if goal not in self.depths]
            for ahead, goals in self.steps[pair].items()})


def steps_of_pairs(one, other):
    """For each pair that is met from (0, 0) a dict from letters to dicts from letters to pairs."""
    mine = useful_moves(one)
    yours = [[] for _ in range(other.size)]
    for state, letter, place in other.moves:
        yours[state].append((letter, place))
    steps = {}
    waiting = [(0, 0)]
    while waiting:
        pair = waiting.pop()
        if pair in steps:
            continue
        steps[pair] = {
            ahead: {behind: (goal, further) for behind, further in yours[pair[1]]} for ahead, goal in mine[pair[0]]}
        waiting.extend([goal for goals in steps[pair].values() for goal in goals.values()])
    return steps
