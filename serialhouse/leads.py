"""Leads of a format to another one: whether there is one, how many to a depth, by number, and by other letters."""

from serialhouse.errors import NotIn, UnlikeRows
from serialhouse.layers import Layers
from serialhouse.leadtables import is_whole_table, made_table
from serialhouse.leastforms import least_form
from serialhouse.lettermaps import all_renamings
from serialhouse.marks import goals_of, parting_index, rounds_of
from serialhouse.partedpapers import do_rounds_part
from serialhouse.sames import first_unlike
from serialhouse.usefulmoves import useful_moves
from serialhouse.values import is_tuple_of


def class_marks(one, other):
    """The pair of tuples that has for each state of two formats the number of its class, None if it is not useful."""
    return rounds_of(one, other)[-1]


def is_led(one, other):
    """Whether there is a lead of the first format to the second one."""
    return parting_depth(one, other) is None


def parting_depth(one, other):
    """One less than the fewest rounds that part two formats, None if there is a lead."""
    return parting_index(rounds_of(one, other))


def judge_lead(one, other):
    """A paper: ("lead", table), or ("parted", rounds) with as few rounds as can be."""
    rounds = rounds_of(one, other)
    index = parting_index(rounds)
    if index is None:
        return "lead", table_by_classes(one, other, rounds[-1])
    return "parted", tuple(rounds[:index + 1])


def table_by_classes(one, other, marks):
    """A whole table that leads along moves to states of the same class."""
    if not one.useful:
        return ()
    mine = [by_class(moves, marks[0]) for moves in useful_moves(one)]
    yours = [by_class(moves, marks[1]) for moves in useful_moves(other)]
    return made_table(
        (0, 0), lambda pair: pair,
        lambda pair: steps_by_class(mine[pair[0]], yours[pair[1]]))


def by_class(moves, marks):
    """The triples (class of goal, letter, goal) of some moves, ascending."""
    return sorted([(marks[goal], letter, goal) for letter, goal in moves])


def steps_by_class(mine, yours):
    """The steps of a row whose states have equally many moves into each class, one class behind the other."""
    return sorted([
        (ahead[1], behind[1], (ahead[2], behind[2])) for ahead, behind in zip(mine, yours)])


def lead_holds(one, other, thing):
    """Whether any value is a paper that there is a lead, or that there is none."""
    if not is_tuple_of(thing, 2):
        return False
    if thing[0] == "lead":
        return is_whole_table(one, other, thing[1])
    return thing[0] == "parted" and do_rounds_part(one, other, thing[1])


def many_leads(one, other, depth, modulus):
    """What the number of leads to a depth leaves when it is divided by a modulus."""
    rounds = rounds_of(one, other)
    index = parting_index(rounds)
    if index is not None and index <= depth:
        return 0
    goals = goals_of(one)
    ways = {state: 1 % modulus for state in one.useful}
    for less in range(depth):
        marks = rounds[min(less, len(rounds) - 1)][0]
        ways = {state: ways_on(goals[state], marks, ways, modulus) for state in one.useful}
    return ways.get(0, 1 % modulus)


def ways_on(goals, marks, ways, modulus):
    """How many leads there are from a state, by those of the states to which its moves lead and by their marks."""
    met = {}
    product = 1 % modulus
    for goal in goals:
        met[marks[goal]] = met.get(marks[goal], 0) + 1
        product = product * met[marks[goal]] * ways[goal] % modulus
    return product


def by_number(one, other, word):
    """The word of the second format with the number of a word of the first one; raises UnlikeRows, then NotIn."""
    length = first_unlike(one, other)
    if length is not None:
        raise UnlikeRows(length)
    if not one.has(word):
        raise NotIn(word)
    # As many words are shorter in both formats, so the word is in the same place among those of its length.
    return Layers(other).word_of(len(word), Layers(one).lesser(word))


def renamings(one, other):
    """The ascending tuple of all renamings of two formats."""
    return all_renamings(least_form(one), least_form(other))
