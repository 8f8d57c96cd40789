"""Growth: whether a format ends, doubles, or grows by a power; and the papers about it."""

import itertools
import unittest

from serialhouse.formats import Format
from serialhouse.growth import degree, grows_faster, judge_growth, longest
from serialhouse.growthchecks import growth_holds
from serialhouse.joining import again, behind, either
from serialhouse.leastforms import least_form
from serialhouse.rows import counts
from tests.helper import (
    AA, ANY, EMPTY, EVEN, FORMS, NOAA, NONE, ONES, changed, is_int, reach, some_formats, some_tame_formats)

AB = Format(2, ((0, "a", 0), (0, "b", 1), (1, "b", 1)), (0, 1))
# A state that is not useful doubles, and no word goes through it.
IDLE = Format(3, ((0, "a", 0), (0, "b", 1), (1, "a", 1), (1, "b", 1), (2, "a", 0)), (0,))
# Two letters lead to one state, round it.
TWO_LETTERS = Format(2, ((0, "a", 1), (0, "b", 1), (1, "a", 0)), (1,))
SHORT = Format(2, ((0, "a", 1),), (1,))
STAIRS = Format(6, tuple(sorted(
    [(state, "a", state) for state in range(6)] + [(state, "b", state + 1) for state in range(5)])), (5,))
SOME = list(FORMS) + [AB, IDLE, TWO_LETTERS, SHORT, STAIRS] + some_formats(120, 31) + some_tame_formats(
    150, 32) + some_tame_formats(60, 33, size=6, letters="abc") + some_formats(30, 34, size=6, letters="abc")


def useful_states(form):
    return [state for state in range(form.size) if state in reach(form, 0) and reach(form, state) & set(form.ends)]


def inner(form):
    """The moves between useful states."""
    useful = useful_states(form)
    return [move for move in form.moves if move[0] in useful and move[2] in useful]


def growth_by_states(form):
    """None if the format doubles, otherwise its degree, -1 if it ends: by its states, gone through one by one."""
    useful = useful_states(form)
    beyond = {state: {goal for start, _, near in inner(form) if start == state for goal in reach(form, near)}
              for state in useful}
    on_ring = [state for state in useful if state in beyond[state]]
    for state in on_ring:
        if len([move for move in inner(form) if move[0] == state and state in reach(form, move[2])]) > 1:
            return None
    many = 0
    for size in range(1, len(on_ring) + 1):
        for states in itertools.permutations(on_ring, size):
            if all(later in beyond[one] and one not in reach(form, later) for one, later in zip(states, states[1:])):
                if all(states[0] in reach(form, 0) and one not in reach(form, later)
                       for one, later in itertools.combinations(states, 2)):
                    many = size
                    break
    return many - 1


class JudgedTest(unittest.TestCase):
    def test_examples(self):
        self.assertIs(growth_holds(NOAA, ("doubles", "", "abb", "bab", "")), True)
        self.assertIs(growth_holds(AB, ("power", 1, ((0, 2, 0), (1, 1, 0)), ("", "a", "b", "b", ""))), True)
        self.assertIs(growth_holds(SHORT, ("ends", ((0, 1), (1, 0)))), True)
        self.assertEqual([judge_growth(form)[0] for form in (NOAA, AB, SHORT)], ["doubles", "power", "ends"])
        self.assertEqual(degree(AB), 1)

    def test_named(self):
        self.assertEqual([degree(form) for form in (NONE, EMPTY, ONES, EVEN, AA, NOAA, TWO_LETTERS, IDLE, STAIRS)],
                         [-1, -1, 0, 0, -1, None, None, 0, 5])
        self.assertEqual(judge_growth(NONE), ("ends", ()))
        self.assertEqual(judge_growth(Format(3, ((0, "a", 1), (0, "b", 0)), (2,))), ("ends", ()))

    def test_degrees(self):
        for form in SOME:
            right = growth_by_states(form)
            self.assertEqual(degree(form), right)
            paper = judge_growth(form)
            self.assertIs(growth_holds(form, paper), True, paper)
            if right is None:
                self.assertEqual(paper[0], "doubles")
            elif right < 0:
                self.assertEqual(paper[0], "ends")
            else:
                self.assertEqual(paper[:2], ("power", right))

    def test_degrees_by_counts(self):
        for form in SOME:
            row = counts(form, 400)
            right = degree(form)
            if right is None:
                self.assertGreater(max(row[:200]), 2 ** 15)
            elif right < 0:
                self.assertEqual(max(row[20:]), 0)
            else:
                self.assertLessEqual(max(count // (length + 1) ** right for length, count in enumerate(row)), 800)
                if right > 0:
                    far = [max(row[length:length + 12]) for length in (150, 350)]
                    self.assertGreater(far[1], 2 ** (right - 1) * far[0])

    def test_faster(self):
        for one, other in zip(SOME, SOME[5:] + SOME[:5]):
            mine, yours = growth_by_states(one), growth_by_states(other)
            right = yours is not None and (mine is None or mine > yours)
            self.assertIs(grows_faster(one, other), right)
        self.assertIs(grows_faster(NOAA, TWO_LETTERS), False)
        self.assertIs(grows_faster(one=NOAA, other=AB), True)
        self.assertIs(grows_faster(AB, NOAA), False)
        self.assertIs(grows_faster(ONES, EMPTY), True)
        self.assertIs(grows_faster(NONE, EMPTY), False)

    def test_longest(self):
        for form in SOME:
            row = counts(form, 60)
            lengths = [length for length in range(60) if row[length]]
            if not lengths:
                self.assertEqual(longest(form), -1)
            elif lengths[-1] > 20:
                self.assertIsNone(longest(form))
            else:
                self.assertEqual(longest(form), lengths[-1])
        self.assertEqual((longest(NONE), longest(EMPTY), longest(AA), longest(IDLE)), (-1, 0, 2, None))

    def test_returned_formats(self):
        forms = [behind(AB, EVEN), either(STAIRS, AB), again(AA), behind(AB, behind(AB, AA)), again(AB),
                 behind(STAIRS, Format(4, ((0, "c", 1), (1, "c", 2), (2, "c", 3)), (3,)))]
        for form, right in zip(forms, (2, 5, 0, 3, None, 5)):
            self.assertIs(growth_holds(form, judge_growth(form)), True)
            self.assertEqual(degree(form), right)
        ring = Format(36, tuple(sorted(
            [(state, "a", (state + 1) % 36) for state in range(36)] + [(7, "b", 30)])), (0,))
        for form in (ring, least_form(ring)):
            self.assertIsNone(degree(form))
            self.assertIs(growth_holds(form, judge_growth(form)), True)


def is_paper(form, thing):
    """What the document says of papers, gone through one by one."""
    if type(thing) is not tuple or not thing or type(thing[0]) is not str:
        return False
    if thing[0] == "ends":
        return len(thing) == 2 and is_row_tuple(form, thing[1], 2) and all(
            dict(thing[1])[goal] < dict(thing[1])[state] for state, _, goal in inner(form))
    if thing[0] == "doubles":
        return len(thing) == 5 and all(map(is_plain_word, thing[1:])) and is_doubling(form, *thing[1:])
    return thing[0] == "power" and len(thing) == 4 and is_power(form, *thing[1:])


def is_plain_word(thing):
    return type(thing) is str and all(sign in "abcdefghijklmnopqrstuvwxyz" for sign in thing)


def is_row_tuple(form, thing, many):
    if type(thing) is not tuple or any(type(row) is not tuple or len(row) != many for row in thing):
        return False
    if not all(is_int(number) for row in thing for number in row):
        return False
    return [row[0] for row in thing] == useful_states(form)


def walk(form, word, state):
    for letter in word:
        state = next((goal for start, sign, goal in form.moves if (start, sign) == (state, letter)), None)
        if state is None:
            return None
    return state


def is_doubling(form, word, one, other, last):
    state = walk(form, word, 0)
    if state is None or one == other or len(one) != len(other):
        return False
    return walk(form, one, state) == state == walk(form, other, state) and walk(form, last, state) in form.ends


def is_power(form, power, levels, chain):
    if not is_int(power) or not is_row_tuple(form, levels, 3) or not levels or levels[0][1] > power + 1:
        return False
    told = {state: (level, depth) for state, level, depth in levels}
    thirds = []
    for state, _, goal in inner(form):
        (level, depth), (other, further) = told[state], told[goal]
        if other < level or other == level and further < depth:
            continue
        if other != level or level == 0 or depth != 0 or further != 0:
            return False
        thirds.append(state)
    if len(set(thirds)) < len(thirds):
        return False
    if type(chain) is not tuple or len(chain) != 2 * power + 3 or not all(map(is_plain_word, chain)):
        return False
    state, rings = 0, []
    for place, word in enumerate(chain):
        goal = walk(form, word, state)
        if goal is None or place % 2 == 1 and (goal != state or word == ""):
            return False
        if place % 2 == 1:
            rings.append(state)
        state = goal
    return state in form.ends and not any(
        one in reach(form, later) for one, later in itertools.combinations(rings, 2))


class PaperTest(unittest.TestCase):
    def test_any_values(self):
        for form in SOME[::4]:
            for thing in ANY:
                self.assertIs(growth_holds(form, thing), is_paper(form, thing), thing)
            self.assertIs(growth_holds(form, ("ends", ())), form.useful == ())

    def test_changed_papers(self):
        seen = set()
        for number, form in enumerate(SOME):
            paper = judge_growth(form)
            for thing in changed(paper, number, 40):
                right = is_paper(form, thing)
                seen.add((paper[0], right and thing != paper))
                self.assertIs(growth_holds(form, thing), right, (str(form), thing))
        self.assertEqual(seen, {(kind, right) for kind in ("ends", "doubles", "power") for right in (True, False)})

    def test_papers_of_other_formats(self):
        papers = [judge_growth(form) for form in SOME[:60]]
        for form in SOME[:60]:
            for paper in papers:
                self.assertIs(growth_holds(form, paper), is_paper(form, paper))

    def test_ends(self):
        self.assertIs(growth_holds(SHORT, ("ends", ((0, 9), (1, 3)))), True)
        for depths in (((0, 1),), ((0, 1), (1, 1)), ((1, 0), (0, 1)), ((0, 1), (1, False)), ((0, 0), (1, -1)),
                       [(0, 1), (1, 0)], ((0, 1), (1, 0), (2, 0)), ((0, 1), (0, 1), (1, 0))):
            self.assertIs(growth_holds(SHORT, ("ends", depths)), False)
        self.assertIs(growth_holds(ONES, ("ends", ((0, 0),))), False)

    def test_doubles(self):
        for words in (("", "b", "b", ""), ("", "b", "bb", ""), ("", "", "", ""), ("a", "b", "a", ""), ("aa", "b", "b", ""),
                      ("", "ab", "bb", "aa"), ("", "ab", "bb", "A"), ("", "ab", "bb", 0), ("", "ab", "bb")):
            self.assertIs(growth_holds(NOAA, ("doubles",) + words), False, words)
        for words in (("", "ab", "bb", ""), ("a", "ba", "bb", "")):
            self.assertIs(growth_holds(NOAA, ("doubles",) + words), words[0] == "", words)
        self.assertIs(growth_holds(NOAA, ("doubles", "ab", "abbab", "babbb", "ba")), True)
        # Rings at a state from which no word leads on to an end.
        self.assertIs(growth_holds(IDLE, ("doubles", "b", "a", "b", "")), False)

    def test_power(self):
        right = ("", "a", "b", "b", "")
        levels = ((0, 2, 0), (1, 1, 0))
        for power, rows, chain in (
                (1, levels, ("aa", "aaa", "bb", "b", "bbb")), (1, levels, ("", "a", "b", "bb", "")),
                (1, levels, right)):
            self.assertIs(growth_holds(AB, ("power", power, rows, chain)), True)
        for power, rows, chain in (
                (0, levels, right), (2, levels, right), (True, levels, right), (1, ((0, 3, 0), (1, 1, 0)), right),
                (1, ((0, 2, 0), (1, 2, 0)), right), (1, ((0, 2, 1), (1, 1, 0)), right), (1, levels[:1], right),
                (1, ((0, 1, 0), (1, 0, 0)), right), (1, levels, ("", "a", "", "a", "b")),
                (1, levels, ("", "a", "b", "", "")), (1, levels, ("", "", "b", "b", "")),
                (1, levels, ("", "a", "b", "b", "a")), (1, levels, ["", "a", "b", "b", ""]),
                (0, levels, ("", "a", "")), (1, list(levels), right), (1, ((0, 2, 0), (1, 1, True)), right),
                (-1, levels, ("",)), (1, ((1, 1, 0), (0, 2, 0)), right)):
            self.assertIs(growth_holds(AB, ("power", power, rows, chain)), False, (power, rows, chain))
        # Higher levels than are needed are let below the level of state 0, and greater depths.
        self.assertIs(growth_holds(
            Format(2, ((0, "a", 0), (0, "b", 1)), (1,)), ("power", 0, ((0, 1, 0), (1, 0, 7)), ("", "a", "b"))), True)
        # One ring of two states, told twice as if it were two.
        even = ("power", 1, ((0, 2, 0), (1, 2, 0)), ("", "aa", "a", "aa", "a"))
        self.assertIs(growth_holds(EVEN, even), False)
        self.assertIs(growth_holds(EVEN, ("power", 0, ((0, 1, 0), (1, 1, 0)), ("", "aa", ""))), True)
        self.assertIs(growth_holds(EVEN, ("power", 0, ((0, 1, 0), (1, 0, 0)), ("", "aa", ""))), False)
        # Two letters to one state are two moves.
        self.assertIs(growth_holds(TWO_LETTERS, ("power", 0, ((0, 1, 0), (1, 1, 0)), ("", "aa", "a"))), False)
        self.assertIs(growth_holds(NONE, ("power", 0, (), ("", "a", ""))), False)
        # No degree below 0, though the levels and the chain would do; and no move to a higher level.
        self.assertIs(growth_holds(SHORT, ("power", -1, ((0, 0, 1), (1, 0, 0)), ("a",))), False)
        late = Format(2, ((0, "a", 1), (1, "a", 1)), (1,))
        self.assertIs(growth_holds(late, ("power", 0, ((0, 1, 0), (1, 2, 0)), ("a", "a", ""))), False)
        self.assertIs(growth_holds(late, ("power", 0, ((0, 1, 1), (1, 1, 0)), ("a", "a", ""))), True)
