"""Papers of growth checked, whoever made them."""

from serialhouse.reaching import reached
from serialhouse.rows import goals_by_state
from serialhouse.usefulmoves import useful_moves
from serialhouse.values import is_integer, is_tuple_of
from serialhouse.words import is_word


def growth_holds(form, thing):
    """Whether any value is a paper that a format ends, doubles, or grows by a power."""
    if is_tuple_of(thing, 2) and thing[0] == "ends":
        return are_rows(form, thing[1], 2) and do_depths_hold(form, thing[1])
    if is_tuple_of(thing, 5) and thing[0] == "doubles":
        return all([is_word(word) for word in thing[1:]]) and do_words_double(
            form, thing[1], thing[2], thing[3], thing[4])
    if is_tuple_of(thing, 4) and thing[0] == "power":
        return does_power_hold(form, thing[1], thing[2], thing[3])
    return False


def are_rows(form, thing, many):
    """Whether any value is a tuple with one row for each useful state: the state, and integers from 0 on behind it."""
    if not is_tuple_of(thing, len(form.useful)) or not all([is_tuple_of(row, many) for row in thing]):
        return False
    if not all([is_integer(number) and number >= 0 for row in thing for number in row]):
        return False
    return tuple([row[0] for row in thing]) == form.useful


def do_depths_hold(form, rows):
    """Whether each useful move leads to a state with a lesser depth."""
    depths = {state: depth for state, depth in rows}
    moves = useful_moves(form)
    return all([depths[goal] < depths[state] for state in form.useful for _, goal in moves[state]])


def do_words_double(form, word, one, other, last):
    """Whether words lead to a state, back to it in two ways of one length, and on to an end."""
    state = form.led(word)
    if state is None or one == other or len(one) != len(other):
        return False
    return form.led(one, state) == state and form.led(other, state) == state and form.is_end(form.led(last, state))


def does_power_hold(form, power, levels, chain):
    """Whether any values are the degree, the levels and the chain of a format that grows by a power."""
    if not is_integer(power) or power < 0 or not are_rows(form, levels, 3) or not levels:
        return False
    if levels[0][1] > power + 1 or not do_levels_hold(form, levels):
        return False
    return is_tuple_of(chain, 2 * power + 3) and all([is_word(word) for word in chain]) and is_chain(form, chain)


def do_levels_hold(form, rows):
    """Whether each useful move leads to a lower level, to a lesser depth, or on along the one ring of its level."""
    told = {state: (level, depth) for state, level, depth in rows}
    moves = useful_moves(form)
    for state in form.useful:
        # Pairs compare by level first, then by depth.
        along = [goal for _, goal in moves[state] if told[goal] >= told[state]]
        if len(along) > 1 or any([told[goal] != told[state] for goal in along]):
            return False
        if along and (told[state][0] == 0 or told[state][1] > 0):
            return False
    return True


def is_chain(form, chain):
    """Whether words lead from state 0 to an end by rings, none of which can be reached from a later one."""
    goals = {state: row for state, row in enumerate(goals_by_state(form))}
    state = 0
    earlier = []
    for place, word in enumerate(chain):
        goal = form.led(word, state)
        if goal is None:
            return False
        if place % 2 == 1:
            beyond = reached([state], goals)
            if word == "" or goal != state or any([each in beyond for each in earlier]):
                return False
            earlier.append(state)
        state = goal
    return form.is_end(state)
