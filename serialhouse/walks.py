"""Walks by letters, each of them alike: which states they stay at for ever, and with which shares they come there."""

from math import gcd

from serialhouse.codes import are_letters
from serialhouse.linear import solved_rows
from serialhouse.reaching import met_states, reached
from serialhouse.rows import goals_by_state


def are_letters_for(form, thing):
    """Whether any value is an ascending string of one to three letters that has all letters of a format."""
    return are_letters(thing) and all([letter in thing for letter in form.letters])


def goal_rows(form):
    """A dict from states to lists of the states to which their moves lead, one for each move."""
    return {state: row for state, row in enumerate(goals_by_state(form))}


def lots_of_states(form, letters):
    """The tuples of the states of all closed lots, ascending."""
    goals = goal_rows(form)
    met = met_states(form.moves)
    beyond = {state: reached([state], goals) for state in met}
    return sorted([
        tuple(sorted(list(beyond[state]))) for state in met
        if state == min(beyond[state]) and is_closed(goals, len(letters), state, beyond)])


def is_closed(goals, many, state, beyond):
    """Whether all states that a state reaches reach it again, and have a move by each of so many letters."""
    return all([state in beyond[goal] and len(goals[goal]) == many for goal in beyond[state]])


def steps_in_lot(form, states):
    """A dict from the states of a closed lot to how many moves lead there, at least, from the least one."""
    goals = goal_rows(form)
    steps = {states[0]: 0}
    queue = [states[0]]
    looked_at = 0
    while looked_at < len(queue):
        state = queue[looked_at]
        looked_at += 1
        for goal in goals[state]:
            if goal not in steps:
                steps[goal] = steps[state] + 1
                queue.append(goal)
    return steps


def round_of_lot(form, states):
    """The greatest common divisor of the lengths of all paths from a state of a closed lot back to it."""
    steps = steps_in_lot(form, states)
    goals = goal_rows(form)
    divisor = 0
    for state in states:
        for goal in goals[state]:
            divisor = gcd(divisor, steps[state] + 1 - steps[goal])
    return divisor


def turns_of_lot(form, states):
    """The tuple of the turns of the states of a closed lot."""
    steps = steps_in_lot(form, states)
    around = round_of_lot(form, states)
    return tuple([steps[state] % around for state in states])


def comes_of_lot(form, letters, states):
    """For each turn of a closed lot the tuple, for all states, of the share that comes there such as the turn tells.

    A state whose share is not known is told, for each turn, by the next turn and the states to which it leads.
    """
    around = round_of_lot(form, states)
    turns = {state: turn for state, turn in zip(states, turns_of_lot(form, states))}
    goals = goal_rows(form)
    asked = [
        state for state in range(form.size) if state not in turns and states[0] in reached([state], goals)]
    keys = [(state, turn) for state in asked for turn in range(around)]
    places = {key: place for place, key in enumerate(keys)}
    rows = []
    for state, turn in keys:
        row = [0] * (len(keys) + 1)
        row[places[(state, turn)]] += len(letters)
        for goal in goals[state]:
            key = (goal, (turn + 1) % around)
            if key in places:
                row[places[key]] -= 1
            elif turns.get(goal) == key[1]:
                row[len(keys)] += 1
        rows.append(row)
    shares = {key: share for key, share in zip(keys, solved_rows(rows))}
    for state in states:
        shares[(state, turns[state])] = (1, 1)
    return tuple([
        tuple([shares.get((state, turn), (0, 1)) for state in range(form.size)]) for turn in range(around)])


def stays_of_lot(form, letters, states):
    """The tuple of the shares with which walks stay at the states of a closed lot."""
    goals = goal_rows(form)
    places = {state: place for place, state in enumerate(states)}
    rows = [[0] * (len(states) + 1) for _ in states]
    for place, state in enumerate(states):
        rows[place][place] += len(letters)
        for goal in goals[state]:
            rows[places[goal]][place] -= 1
    # Any one of these equations follows from the others; that the sum is 1 is put in the place of the last one.
    rows[-1] = [1] * (len(states) + 1)
    return tuple(solved_rows(rows))
