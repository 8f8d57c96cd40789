"""The parts of formats and sheets: size, moves and ends."""

from serialhouse.values import is_ascending, is_below, is_integer, is_tuple_of
from serialhouse.words import is_letter


def wrong_part(size, moves, ends, is_single):
    """The name of the first part that is not as told, None if all are.

    With is_single a state and a letter have one move at most, as in formats.
    """
    if not is_integer(size) or size < 1:
        return "size"
    if not are_moves(moves, size) or (is_single and not are_single(moves)):
        return "moves"
    if not are_ends(ends, size):
        return "ends"
    return None


def is_move(thing, size):
    """Whether any value is a triple (state, letter, state)."""
    return is_tuple_of(thing, 3) and is_below(thing[0], size) and is_letter(thing[1]) and is_below(thing[2], size)


def are_moves(thing, size):
    """Whether any value is an ascending tuple of moves."""
    return isinstance(thing, tuple) and all([is_move(move, size) for move in thing]) and is_ascending(thing)


def are_single(moves):
    """Whether ascending moves have one at most for each state and letter."""
    return all([one[:2] != other[:2] for one, other in zip(moves, moves[1:])])


def are_ends(thing, size):
    """Whether any value is an ascending tuple of states."""
    return isinstance(thing, tuple) and all([is_below(end, size) for end in thing]) and is_ascending(thing)
