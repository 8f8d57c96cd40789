"""Least totals: codes whose words are the shorter, the greater their weights (D. Huffman 1952)."""

from serialhouse.codes import Code
from serialhouse.values import is_ascending, is_below


def total_of(code, weights):
    """The sum of the weights of the words of a code, each times the length of its word."""
    return sum([weight * len(word) for weight, word in zip(weights, code.words)])


def least_total(letters, weights):
    """The least total of all codes with so many letters that are read in one way."""
    if len(weights) == 1:
        return weights[0]
    return sum(all_weights(weights, joins_for(letters, weights))[len(weights):])


def all_weights(weights, joins):
    """The weights of all nodes, behind those told the ones that are made by joins."""
    told = list(weights)
    for join in joins:
        told.append(sum([told[node] for node in join]))
    return told


def joined_at_first(letters, many):
    """How many nodes the first join has, many of them being left."""
    return 2 if many % 2 == 0 else letters


def joins_for(letters, weights):
    """Joins of the nodes of least weights, until one node is left."""
    told = list(weights)
    left = list(range(len(weights)))
    joins = []
    size = joined_at_first(letters, len(weights))
    while len(left) > 1:
        lightest = sorted([(told[node], node) for node in left])[:size]
        join = tuple(sorted([node for _, node in lightest]))
        left = [node for node in left if node not in join] + [len(told)]
        told.append(sum([weight for weight, _ in lightest]))
        joins.append(join)
        size = letters
    return tuple(joins)


def joins_hold(letters, weights, thing):
    """Whether any value is joins for some weights."""
    if not isinstance(thing, tuple):
        return False
    told = list(weights)
    left = list(range(len(weights)))
    size = joined_at_first(letters, len(weights))
    for join in thing:
        if not is_join(join, size, len(told)) or not can_be_joined(told, left, join):
            return False
        left = [node for node in left if node not in join] + [len(told)]
        told.append(sum([told[node] for node in join]))
        size = letters
    return len(left) == 1


def is_join(thing, size, many):
    """Whether any value is an ascending tuple of so many numbers of nodes."""
    if not isinstance(thing, tuple) or len(thing) != size:
        return False
    return all([is_below(node, many) for node in thing]) and is_ascending(thing)


def can_be_joined(told, left, join):
    """Whether nodes are left, and no other node that is left has a lesser weight than one of them."""
    if not all([node in left for node in join]):
        return False
    greatest = max([told[node] for node in join])
    return all([node in join or told[node] >= greatest for node in left])


def best_code(letters, weights):
    """A code without beginnings with the least total, over the first so many of the letters a, b and c."""
    signs = "abc"[:letters]
    if len(weights) == 1:
        return Code(signs, ("a",))
    joins = joins_for(letters, weights)
    words = {len(weights) + len(joins) - 1: ""}
    for number, join in list(enumerate(joins, start=len(weights)))[::-1]:
        for letter, node in zip(signs, join):
            words[node] = words[number] + letter
    return Code(signs, tuple([words[node] for node in range(len(weights))]))
