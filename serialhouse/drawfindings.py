"""Findings about draws, trees of tosses and codes: those of the parts 5 and 6."""

from serialhouse.codes import Code
from serialhouse.errors import BadCode
from serialhouse.findingparts import name_of_finding, parts_read
from serialhouse.rests import code_holds, look_holds
from serialhouse.tosses import mean
from serialhouse.totals import joins_hold
from serialhouse.trees import is_least, is_tree, tree_holds
from serialhouse.values import can_be_told, is_integer, is_just, is_tuple_of

# How many parts there are behind the first one, any values each.
KINDS = {
    "mean": "---", "tree": "---", "least": "--", "one way": "---", "two ways": "----", "look": "----",
    "no look": "---", "joins": "---"}


def is_least_mean(many, top, bottom):
    """("mean", many, top, bottom)."""
    return can_be_told(many) and many > 0 and is_just((top, bottom), mean(many))


def is_many(thing):
    """Whether any value is an integer from 1 on."""
    return is_integer(thing) and thing >= 1


def is_paper_of_tree(many, tree, paper):
    """("tree", many, tree, paper)."""
    return is_many(many) and is_tree(many, tree) and tree_holds(many, tree, paper)


def is_least_tree(many, tree):
    """("least", many, tree)."""
    if not is_many(many) or not is_tree(many, tree):
        return False
    # A tree draws no more things than twice its nodes, and a least one draws all.
    return many <= 2 * len(tree) + 1 and is_least(many, tree)


def code_read(letters, words):
    """The code of any values, None if they make none."""
    try:
        return Code(letters, words)
    except BadCode:
        return None


def is_one_way_by(letters, words, rests):
    """("one way", letters, words, rests)."""
    code = code_read(letters, words)
    return code is not None and code_holds(code, ("one", rests))


def is_two_ways_by(letters, words, one, other):
    """("two ways", letters, words, one, other)."""
    code = code_read(letters, words)
    return code is not None and code_holds(code, ("two", one, other))


def is_look(letters, words, most, table):
    """("look", letters, words, k, table)."""
    code = code_read(letters, words)
    return code is not None and look_holds(code, ("within", most, table))


def is_no_look(letters, words, messages):
    """("no look", letters, words, messages)."""
    code = code_read(letters, words)
    if code is None or not is_tuple_of(messages, 4):
        return False
    return look_holds(code, ("endless",) + messages)


def are_joins(letters, weights, joins):
    """("joins", number, weights, joins)."""
    if not is_integer(letters) or not 2 <= letters <= 3 or not isinstance(weights, tuple) or not weights:
        return False
    return all([is_integer(weight) and weight >= 0 for weight in weights]) and joins_hold(letters, weights, joins)


HOLDING = {
    "mean": is_least_mean, "tree": is_paper_of_tree, "least": is_least_tree, "one way": is_one_way_by,
    "two ways": is_two_ways_by, "look": is_look, "no look": is_no_look, "joins": are_joins}


def draw_finding_holds(thing):
    """Whether any value is a finding of the parts 5 and 6 that holds."""
    name = name_of_finding(thing)
    if name not in KINDS:
        return False
    parts = parts_read(KINDS[name], thing[1:])
    holds = HOLDING[name]
    return parts is not None and holds(*parts)
