"""Pairs of states at which two readings of one word can be side by side."""

from serialhouse.reaching import live_states, met_states


def parting_pairs(sheet):
    """The pairs of unlike states to which a letter leads from one met state, the lesser one ahead."""
    met = met_states(sheet.moves)
    return [
        (goal, further)
        for state in met for letter in sheet.letters for goal in sheet.goals(state, letter)
        for further in sheet.goals(state, letter) if goal < further]


def side_steps(sheet, pair):
    """Where a letter leads from both states of a pair, the lesser state ahead; both may be one state."""
    return [
        (min(goal, further), max(goal, further))
        for letter in sheet.letters for goal in sheet.goals(pair[0], letter)
        for further in sheet.goals(pair[1], letter)]


def side_pairs(sheet):
    """The ascending tuple of all pairs of unlike states to which two readings that have parted can lead."""
    pairs = {pair: True for pair in parting_pairs(sheet)}
    waiting = list(pairs)
    while waiting:
        pair = waiting.pop()
        for goal in side_steps(sheet, pair):
            if goal[0] != goal[1] and goal not in pairs:
                pairs[goal] = True
                waiting.append(goal)
    return tuple(sorted(list(pairs)))


def is_apart(sheet, pairs):
    """Whether from none of some pairs two readings end, or meet again where words lead on to an end."""
    live = live_states(sheet.moves, sheet.ends)
    for pair in pairs:
        if sheet.is_end(pair[0]) and sheet.is_end(pair[1]):
            return False
        if any([goal[0] == goal[1] and goal[0] in live for goal in side_steps(sheet, pair)]):
            return False
    return True
