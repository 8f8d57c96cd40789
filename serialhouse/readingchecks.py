"""Papers about readings checked, whoever made them."""

from serialhouse.sidesteps import is_apart, parting_pairs, side_steps
from serialhouse.values import is_ascending, is_below, is_tuple_of
from serialhouse.words import is_word


def readings_hold(sheet, thing):
    """Whether any value is a paper that a sheet is read in one way, or that some word has two readings."""
    if is_tuple_of(thing, 2) and thing[0] == "one":
        return are_pairs(sheet, thing[1]) and do_pairs_hold(sheet, thing[1])
    if is_tuple_of(thing, 4) and thing[0] == "two":
        return are_two_readings(sheet, thing[1], thing[2], thing[3])
    return False


def are_pairs(sheet, thing):
    """Whether any value is an ascending tuple of pairs of states, the lesser state ahead."""
    return isinstance(thing, tuple) and all([is_pair(sheet, pair) for pair in thing]) and is_ascending(thing)


def is_pair(sheet, thing):
    """Whether any value is a pair of states, the lesser one ahead."""
    if not is_tuple_of(thing, 2):
        return False
    return is_below(thing[0], sheet.size) and is_below(thing[1], sheet.size) and thing[0] < thing[1]


def do_pairs_hold(sheet, pairs):
    """Whether readings that part are at these pairs for ever, and never end or meet again from them."""
    told = {pair: True for pair in pairs}
    goals = parting_pairs(sheet) + [goal for pair in pairs for goal in side_steps(sheet, pair)]
    return all([goal[0] == goal[1] or goal in told for goal in goals]) and is_apart(sheet, pairs)


def are_two_readings(sheet, word, reading, further):
    """Whether any values are a word and two unlike readings of it."""
    if not is_word(word) or not is_reading(sheet, word, reading) or not is_reading(sheet, word, further):
        return False
    return reading != further


def is_reading(sheet, word, thing):
    """Whether any value is a reading of a word."""
    if not is_tuple_of(thing, len(word) + 1) or not all([is_below(state, sheet.size) for state in thing]):
        return False
    if thing[0] != 0 or not sheet.is_end(thing[-1]):
        return False
    return all([thing[at + 1] in sheet.goals(thing[at], letter) for at, letter in enumerate(word)])
