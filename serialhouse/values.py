"""Kinds of values: what an integer is, and what ascends."""

# Lengths, and numbers of things, beyond all limits.
MOST = 10000


def is_integer(thing):
    """Whether any value is an integer; a bool is none."""
    return isinstance(thing, int) and not isinstance(thing, bool)


def is_below(thing, size):
    """Whether any value is an integer from 0 on that is less than size."""
    return is_integer(thing) and 0 <= thing < size


def can_be_told(thing):
    """Whether any value is an integer from 0 on that is not beyond all limits of lengths and numbers of things."""
    return is_below(thing, MOST + 1)


def is_ascending(things):
    """Whether values that can be compared ascend, none twice."""
    return all([one < other for one, other in zip(things, things[1:])])


def is_pair_of_tuples(thing):
    """Whether any value is a tuple of just two tuples."""
    return is_tuple_of(thing, 2) and isinstance(thing[0], tuple) and isinstance(thing[1], tuple)


def is_tuple_of(thing, many):
    """Whether any value is a tuple of just so many parts."""
    return isinstance(thing, tuple) and len(thing) == many


def is_just(thing, told):
    """Whether any value is just what is told, of integers, strings and tuples of these; a bool is no integer."""
    if isinstance(told, tuple):
        return is_tuple_of(thing, len(told)) and all([is_just(mine, yours) for mine, yours in zip(thing, told)])
    if isinstance(told, str):
        return isinstance(thing, str) and thing == told
    return is_integer(thing) and thing == told
