"""Papers that there is no lead checked, whoever made them."""

from serialhouse.marks import end_keys, goals_of, onward_keys
from serialhouse.values import is_integer, is_tuple_of


def do_rounds_part(one, other, thing):
    """Whether any value is a tuple of rounds of marks that part two formats."""
    if not isinstance(thing, tuple) or not thing:
        return False
    if not all([is_tuple_of(marks, 2) and is_half(one, marks[0]) and is_half(other, marks[1]) for marks in thing]):
        return False
    mine = goals_of(one)
    yours = goals_of(other)
    keys = end_keys(one, mine) + end_keys(other, yours)
    for marks in thing:
        if not are_alike_by(keys, marks[0] + marks[1]):
            return False
        keys = onward_keys(one, mine, marks[0]) + onward_keys(other, yours, marks[1])
    return thing[-1][0][0] != thing[-1][1][0]


def is_half(form, thing):
    """Whether any value is a tuple with an integer from 0 on for each useful state, and None for each other one."""
    if not is_tuple_of(thing, form.size):
        return False
    useful = {state: True for state in form.useful}
    return all([
        is_integer(mark) and mark >= 0 if state in useful else mark is None for state, mark in enumerate(thing)])


def are_alike_by(keys, marks):
    """Whether marks are the same wherever keys are."""
    told = {}
    for key, mark in zip(keys, marks):
        if told.setdefault(key, mark) != mark:
            return False
    return True
