"""Rules: the first terms of a row, and the factors by which each further term is told by those ahead of it."""

from serialhouse.leastrules import do_factors_tell, least_of_row
from serialhouse.rows import counts, counts_from
from serialhouse.values import is_integer, is_pair_of_tuples


def is_rule(thing):
    """Whether any value is a rule: two tuples of integers, equally long."""
    if not is_pair_of_tuples(thing) or len(thing[0]) != len(thing[1]):
        return False
    return all([is_integer(number) for number in thing[0] + thing[1]])


def terms(rule, many):
    """The tuple of the first so many terms of the row of a rule."""
    firsts, factors = rule
    taps = [(at + 1, factor) for at, factor in enumerate(factors) if factor != 0]
    row = list(firsts[:many])
    while len(row) < many:
        row.append(sum([factor * row[-back] for back, factor in taps]))
    return tuple(row)


def term(rule, index):
    """The term at an index, from 0 on."""
    return terms(rule, index + 1)[index]


def least(rule):
    """The least rule of the row of a rule."""
    return least_of_row(terms(rule, 2 * len(rule[1])))


def least_rule(form):
    """The least rule of the row of a format."""
    return least_of_row(counts(form, 2 * len(form.useful)))


def least_rule_from(form, state):
    """The least rule of the row of a state, useful or not."""
    return least_of_row(counts_from(form, state, 2 * form.size))


def obeys(form, thing):
    """Whether any value is a rule that the row of a format obeys."""
    if not is_rule(thing):
        return False
    firsts, factors = thing
    # A row of n useful states and a rule of m factors are the same if their first m + n terms are.
    row = counts(form, len(firsts) + len(form.useful))
    return row[:len(firsts)] == firsts and do_factors_tell(row, factors)


def added(one, other):
    """The least rule of the sums of the terms of two rules."""
    return by_index(one, other, len(one[1]) + len(other[1]), lambda mine, yours: mine + yours)


def lessened(one, other):
    """The least rule of the differences of the terms of two rules."""
    return by_index(one, other, len(one[1]) + len(other[1]), lambda mine, yours: mine - yours)


def timed(one, other):
    """The least rule of the products of the terms of two rules."""
    return by_index(one, other, len(one[1]) * len(other[1]), lambda mine, yours: mine * yours)


def by_index(one, other, most, combine):
    """The least rule, of at most so many factors, of what is made of the terms at each index."""
    mine = terms(one, 2 * most)
    yours = terms(other, 2 * most)
    return least_of_row([combine(mine[index], yours[index]) for index in range(2 * most)])


def met(one, other):
    """The least rule of the row of a word of the one with a word of the other one behind it."""
    many = 2 * (len(one[1]) + len(other[1]))
    mine = terms(one, many)
    yours = terms(other, many)
    return least_of_row([
        sum([mine[at] * yours[index - at] for at in range(index + 1)]) for index in range(many)])


def summed(rule):
    """The least rule of the sums of all terms up to each index."""
    total = 0
    row = []
    for number in terms(rule, 2 * len(rule[1]) + 2):
        total += number
        row.append(total)
    return least_of_row(row)


def part(rule, step, rest):
    """The least rule of the terms at rest, at step + rest, at 2 * step + rest and so on."""
    many = 2 * len(rule[1])
    return least_of_row(terms(rule, step * many + rest)[rest::step][:many])
