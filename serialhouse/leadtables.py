"""Tables: words of one format led letter by letter to words of another one."""

from serialhouse.errors import NotIn
from serialhouse.formats import Format
from serialhouse.leastforms import least_form
from serialhouse.usefulmoves import useful_moves
from serialhouse.values import is_below, is_tuple_of
from serialhouse.words import is_letter, is_word


def is_table(one, other, thing):
    """Whether any value is a table into the second format."""
    if not isinstance(thing, tuple) or not all([has_form_of_row(one, other, row, len(thing)) for row in thing]):
        return False
    if not one.useful or not thing:
        return not one.useful and not thing
    moves = useful_moves(one)
    return thing[0][:2] == (0, 0) and all([is_row_right(one, other, moves, thing, row) for row in thing])


def has_form_of_row(one, other, thing, many):
    """Whether any value is (s, t, steps): states of two formats, and steps to rows of so many."""
    if not is_tuple_of(thing, 3) or not is_below(thing[0], one.size) or not is_below(thing[1], other.size):
        return False
    return isinstance(thing[2], tuple) and all([has_form_of_step(step, many) for step in thing[2]])


def has_form_of_step(thing, many):
    """Whether any value is (a, b, k): two letters, and the number of one of so many rows."""
    return is_tuple_of(thing, 3) and is_letter(thing[0]) and is_letter(thing[1]) and is_below(thing[2], many)


def is_row_right(one, other, moves, table, row):
    """Whether a row that has the form of one is as told, by the useful moves of the first format."""
    mine, yours, steps = row
    if mine not in one.useful or one.is_end(mine) and not other.is_end(yours):
        return False
    if [step[0] for step in steps] != [letter for letter, _ in moves[mine]]:
        return False
    if len(set([step[1] for step in steps])) < len(steps):
        return False
    return all([
        table[number][:2] == (one.step(mine, ahead), other.step(yours, behind)) for ahead, behind, number in steps])


def is_whole_table(one, other, thing):
    """Whether any value is a whole table for two formats."""
    if not is_table(one, other, thing) or other.useful and not one.useful:
        return False
    moves = useful_moves(other)
    return all([is_row_whole(one, other, moves, row) for row in thing])


def is_row_whole(one, other, moves, row):
    """Whether a row of a table leaves nothing of the second format over, by its useful moves."""
    mine, yours, steps = row
    if yours not in other.useful or other.is_end(yours) and not one.is_end(mine):
        return False
    behinds = [step[1] for step in steps]
    return all([letter in behinds for letter, _ in moves[yours]])


def led(one, other, table, word):
    """The word that a word is led to; raises NotIn for any value that is no word of the first format."""
    if not one.has(word):
        raise NotIn(word)
    return exchanged(table, word, 0)[0]


def led_back(one, other, table, word):
    """The word that is led to a word; raises NotIn for any value to which none is led."""
    if not is_word(word) or not table:
        raise NotIn(word)
    back, number = exchanged(table, word, 1)
    if number is None or not one.is_end(table[number][0]):
        raise NotIn(word)
    return back


def exchanged(table, word, side):
    """A word with each letter, which steps have on one side, exchanged for the other; and the number of the row behind.

    The number is None if there is no step by a letter.
    """
    letters = []
    number = 0
    for letter in word:
        found = [step for step in table[number][2] if step[side] == letter]
        if not found:
            return "".join(letters), None
        letters.append(found[0][1 - side])
        number = found[0][2]
    return "".join(letters), number


def image_of(one, other, table):
    """The format of the words that are led by a table into the second format."""
    if not table:
        return Format(1, (), ())
    moves = [(number, behind, goal) for number, row in enumerate(table) for _, behind, goal in row[2]]
    ends = [number for number, row in enumerate(table) if one.is_end(row[0])]
    return least_form(Format(len(table), tuple(sorted(moves)), tuple(ends)))


def together(one, other, third, table, further):
    """The table of the first format into the third one, by one table and then by a further one."""
    if not table:
        return ()
    return made_table(
        (0, 0), lambda key: (table[key[0]][0], further[key[1]][1]),
        lambda key: steps_together(table[key[0]], further[key[1]]))


def steps_together(row, behind):
    """The triples (a, c, rows) of two rows, the b of the one being the a of the other one."""
    goals = {ahead: (after, goal) for ahead, after, goal in behind[2]}
    return [(ahead, goals[letter][0], (goal, goals[letter][1])) for ahead, letter, goal in row[2]]


def made_table(start, states_of, steps_of):
    """The table whose rows are keys: states_of(key) is its s and t, steps_of(key) its triples (a, b, key)."""
    keys = [start]
    numbers = {start: 0}
    rows = []
    while len(rows) < len(keys):
        key = keys[len(rows)]
        steps = []
        for ahead, behind, goal in steps_of(key):
            if goal not in numbers:
                numbers[goal] = len(keys)
                keys.append(goal)
            steps.append((ahead, behind, numbers[goal]))
        mine, yours = states_of(key)
        rows.append((mine, yours, tuple(steps)))
    return tuple(rows)


def about(one, other, table):
    """A whole table turned about: a whole table of the second format to the first one."""
    return tuple([
        (yours, mine, tuple(sorted([(behind, ahead, number) for ahead, behind, number in steps])))
        for mine, yours, steps in table])
