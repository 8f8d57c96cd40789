"""What the tests share: formats and sheets to try, any values, and words gone through one by one."""

import itertools
import random
from fractions import Fraction

from serialhouse.books import Bureau
from serialhouse.codes import Code
from serialhouse.console import Console
from serialhouse.errors import BadFormat, HasBeginnings, NothingToUndo
from serialhouse.formats import Format
from serialhouse.lengths import Lengths
from serialhouse.readers import Reader
from serialhouse.sheets import Sheet

NOAA = Format(2, ((0, "a", 1), (0, "b", 0), (1, "b", 0)), (0, 1))
NONE = Format(1, (), ())
EMPTY = Format(1, (), (0,))
ONES = Format(1, ((0, "a", 0),), (0,))
EVEN = Format(2, ((0, "a", 1), (1, "a", 0)), (0,))
AA = Format(3, ((0, "a", 1), (1, "a", 2)), (2,))
OTHERS = Format(2, ((0, "x", 1), (0, "y", 0), (1, "z", 0)), (1,))
DEAD = Format(4, ((0, "a", 1), (0, "b", 2), (1, "a", 1), (3, "a", 1)), (1, 3))
LEFT = Format(3, ((0, "a", 1), (1, "a", 2), (1, "b", 2)), (2,))
RIGHT = Format(4, ((0, "a", 1), (0, "b", 2), (1, "a", 3), (2, "a", 3)), (3,))
ALL = Format(1, ((0, "a", 0), (0, "b", 0)), (0,))
EVENS = Format(2, ((0, "a", 1), (0, "b", 1), (1, "a", 0), (1, "b", 0)), (0,))
SOME = Format(2, ((0, "a", 1), (1, "a", 0), (1, "b", 0)), (0,))
ENDA = Format(2, ((0, "a", 1), (0, "b", 0), (1, "a", 1), (1, "b", 0)), (1,))
TWICE = Sheet(2, ((0, "a", 0), (0, "a", 1), (1, "a", 1)), (1,))
LAST = Sheet(2, ((0, "a", 0), (0, "a", 1), (0, "b", 0)), (1,))

ONE = Code("ab", ("a", "ab", "bb"))
TWO = Code("ab", ("a", "ab", "ba"))
LATE = Code("ab", ("a", "aab", "bb"))
NEAR = Code("ab", ("a", "aab"))
SINGLE = Code("a", ("aa",))
PLAIN = Code("abc", ("a", "bb", "bc", "c"))
BARE = Code("ab", ())
CODES = (ONE, TWO, LATE, NEAR, SINGLE, PLAIN, BARE)

FORMS = (NOAA, NONE, EMPTY, ONES, EVEN, AA, OTHERS, DEAD)

ANY = (
    None, True, False, 0, 1, 2, -1, 10 ** 59, -10 ** 59, "", "a", "b", "aa", "ab", "A", "a b", "a\n", "0", "~", "ends",
    (), (0,), (1,), (True,), (False,), ("a",), (0, 1), (1, 0), (0, 0), (0, True), ("a", "b"), (None, None), ((),),
    ((), ()), ((0,), (1,)), ((0, 1),), ((1, 0),), ((0, "a", 0),), ((True, "a", 0),), (("a", "b"),), ("one", ()),
    ("one",), ("two",), ("same", ((), ())), ("unlike", 0), ("unlike", True), ("lead", ()), ("into", ()), ("barred", ()),
    ("parted", ()), ("parted", (((0,), (1,)),)), ("lead", ((0, 0, ()),)), ("into", ((0, 0, ()),)), ((0, 0, ()),),
    ("barred", ((0, 0, 0, None),)), ("barred", ((0, 0, 0, ("a",)),)), (0, 0, ()), (0, 1, 0, None), (0, 0, 0, ("a", "b")),
    ("a", "a", 0), ("a", "b", 1), ("one", ("b",)), ("two", (0, 2), (1, 0)), ("two", (), ()), ("endless", ""),
    ("endless", (0,), (1,), (2,), (2,)), ("within", 0, ()), ("within", 2, (("ab", 1), ("b", 0))), ("ends", (), ()),
    ((0, 1), (1, 2)), (1, 2), ((-1, -2),), ((1, 2),), ONE, [ONE], "abc", "ba", ("a", "ab"), ("b", "a"), ("",), [], [0], [(0, 1)], ["one", ()], {},
    {0: 1}, {"a": [1]}, ((((((),),),),),), "a" * 2000, "\n" * 9, tuple(range(50)), NOAA, NOAA.sheet, TWICE,
    BadFormat("size"), HasBeginnings(0, 1), NothingToUndo(), [[[{"a": (None, [True])}]]], Lengths((), 0, 1, (0,)), Bureau(),
    Console(), Reader(NEAR), (Bureau(), Lengths((1,), 2, 1, ())), ("at", 0), ("never", 0, 1), ("round", 0, 0), ("from", 0, ()),
    ("again", 0, (-1,)), ("power", 0, (), ()), ("thin", ()), ("thick", (0,), 0), ("limits", (), (), ()), ("mean", 1), ("next",))


def words_to(letters, most):
    """All words of some letters with at most so many letters, in order."""
    return ["".join(signs) for many in range(most + 1) for signs in itertools.product(sorted(letters), repeat=many)]


def ways(thing, word):
    """All readings of a word by a format or a sheet, gone through one by one, ascending."""
    rows = [(0,)]
    for letter in word:
        rows = [row + (move[2],) for row in rows for move in thing.moves if move[:2] == (row[-1], letter)]
    return tuple(sorted(row for row in rows if row[-1] in thing.ends))


def words_of(thing, letters, most):
    """The words with at most so many letters of a format or a sheet, in order."""
    return [word for word in words_to(letters, most) if ways(thing, word)]


def letters_in(*things):
    """The letters of the moves of all of these, ascending."""
    return "".join(sorted({move[1] for thing in things for move in thing.moves}))


def is_least(form):
    """Whether a format is a least one: all states useful, unlike, and in the order of their first words."""
    if form == NONE:
        return True
    firsts = {}
    for word in words_to(letters_in(form), form.size - 1):
        firsts.setdefault(form.led(word), word)
    in_order = [firsts.get(state) for state in range(form.size)]
    if None in in_order or in_order != sorted(in_order, key=lambda word: (len(word), word)):
        return False
    letters = letters_in(form)
    marks = [state in form.ends for state in range(form.size)] + [False]
    for _ in range(form.size + 1):
        rows = [(marks[state],) + tuple(marks[goal_of(form, state, letter)] for letter in letters)
                for state in range(form.size + 1)]
        marks = [rows.index(row) for row in rows]
    return len(set(marks)) == form.size + 1


def goal_of(form, state, letter):
    """Where a letter leads, the size standing for nowhere."""
    return next((move[2] for move in form.moves if move[:2] == (state, letter)), form.size)


def some_formats(many, seed, size=4, letters="ab"):
    """Formats of different kinds, the same ones each time."""
    source = random.Random(seed)
    made = []
    for _ in range(many):
        states = source.randint(1, size)
        density = source.choice((0.4, 0.7, 0.9))
        moves = tuple((state, letter, source.randrange(states)) for state in range(states) for letter in letters
                      if source.random() < density)
        ends = tuple(state for state in range(states) if source.random() < 0.4)
        made.append(Format(states, moves, ends))
    return made


def some_sheets(many, seed, size=4, most=8, letters="ab"):
    """Sheets of different kinds, the same ones each time."""
    source = random.Random(seed)
    made = []
    for _ in range(many):
        states = source.randint(1, size)
        moves = {(source.randrange(states), source.choice(letters), source.randrange(states))
                 for _ in range(source.randint(0, most))}
        ends = tuple(state for state in range(states) if source.random() < 0.4)
        made.append(Sheet(states, tuple(sorted(moves)), ends))
    return made


def some_codes(many, seed, most=4, length=4):
    """Codes of different kinds, the same ones each time."""
    source = random.Random(seed)
    made = list(CODES)
    while len(made) < many:
        letters = source.choice(("a", "ab", "ab", "ab", "bc", "abc"))
        words = []
        for _ in range(source.randint(0, most)):
            word = "".join(source.choice(letters) for _ in range(source.randint(1, length)))
            if word not in words:
                words.append(word)
        made.append(Code(letters, tuple(words)))
    return made


def messages_to(code, most):
    """All messages that have at most so many letters when written."""
    told = [()]
    for message in told:
        length = sum(len(code.words[number]) for number in message)
        told.extend(message + (number,) for number, word in enumerate(code.words) if length + len(word) <= most)
    return told


def text_of(code, message):
    """A message, written."""
    return "".join(code.words[number] for number in message)


def some_rules(many, seed, most=3):
    """Rules with few factors, the same ones each time."""
    source = random.Random(seed)
    made = []
    for _ in range(many):
        size = source.randint(0, most)
        made.append((tuple(source.randint(-3, 4) for _ in range(size)), tuple(source.randint(-2, 2) for _ in range(size))))
    return made


def row_of(rule, many):
    """The first so many terms of a rule, told one by one."""
    row = list(rule[0])
    while len(row) < many:
        row.append(sum(factor * row[len(row) - 1 - at] for at, factor in enumerate(rule[1])))
    return row[:many]


def is_least_rule(rule):
    """Whether no rule with fewer factors has the same row: whether its table of terms has full rank."""
    size = len(rule[1])
    row = row_of(rule, 2 * size)
    return rank([row[at:at + size] for at in range(size)]) == size


def rank(rows):
    """The rank of some rows of integers."""
    rows = [[Fraction(number) for number in row] for row in rows]
    done = 0
    for column in range(len(rows[0]) if rows else 0):
        pivot = next((at for at in range(done, len(rows)) if rows[at][column] != 0), None)
        if pivot is None:
            continue
        rows[done], rows[pivot] = rows[pivot], rows[done]
        for at in range(done + 1, len(rows)):
            share = rows[at][column] / rows[done][column]
            if share:
                rows[at] = [mine - share * yours for mine, yours in zip(rows[at], rows[done])]
        done += 1
    return done


def changed(thing, seed, many):
    """Values that a paper becomes when parts of it are replaced, left out, exchanged or repeated."""
    source = random.Random(seed)
    made = []
    for _ in range(many):
        made.append(changed_once(thing, source))
    return made


def changed_once(thing, source):
    """One such value."""
    if isinstance(thing, tuple) and thing and source.random() < 0.8:
        at = source.randrange(len(thing))
        kind = source.choice(("in", "in", "in", "in", "out", "swap", "twice", "list"))
        if kind == "in":
            return thing[:at] + (changed_once(thing[at], source),) + thing[at + 1:]
        if kind == "out":
            return thing[:at] + thing[at + 1:]
        if kind == "twice":
            return thing[:at] + (thing[at],) + thing[at:]
        if kind == "list":
            return list(thing)
        other = source.randrange(len(thing))
        parts = list(thing)
        parts[at], parts[other] = parts[other], parts[at]
        return tuple(parts)
    if isinstance(thing, int) and source.random() < 0.6:
        return thing + source.choice((-1, 1))
    return source.choice(ANY)


def some_tame_formats(many, seed, size=5, letters="ab"):
    """Formats most of which do not double: few moves lead backward. The same ones each time."""
    source = random.Random(seed)
    made = []
    for _ in range(many):
        states = source.randint(1, size)
        moves = []
        for state in range(states):
            taken = list(letters)
            source.shuffle(taken)
            if source.random() < 0.7:
                moves.append((state, taken.pop(), state - source.choice((0, 0, 0, 0, 1, 2, 3)) if state > 2 else state))
            for letter in taken:
                if state + 1 < states and source.random() < 0.8:
                    moves.append((state, letter, source.randint(state + 1, min(states - 1, state + 2))))
        ends = tuple(state for state in range(states) if source.random() < 0.5 or state == states - 1)
        made.append(Format(states, tuple(sorted(moves)), ends))
    return made


def reach(form, state):
    """The states that some moves, perhaps none, lead to from a state."""
    met = {state}
    while True:
        more = met | {goal for start, _, goal in form.moves if start in met}
        if more == met:
            return met
        met = more


def is_int(thing, least=0):
    """Whether any value is an integer, no bool, from a least one on."""
    return type(thing) is int and thing >= least
