"""Limits of shares, and whether a format is thin, against shares and walks gone through one by one."""

import math
import unittest
from fractions import Fraction

from serialhouse.errors import NotThin
from serialhouse.limits import is_thin, limits, limits_hold, limits_paper, thin_bound, thin_holds, thin_paper
from serialhouse.shares import closed_lots, round_of, share_at, turns
from tests.helper import ALL, ANY, EMPTY, ENDA, EVEN, NOAA, NONE, ONES, changed, is_int, reach
from tests.test_shares import APART, PARTED, SAMPLES, WAITING


def goals_of(form, state):
    return [goal for one, _, goal in form.moves if one == state]


def fraction_of(thing):
    """The fraction that any value tells, None if it is none."""
    if type(thing) is not tuple or len(thing) != 2 or not is_int(thing[1], 1) or type(thing[0]) is not int:
        return None
    return Fraction(*thing) if math.gcd(*thing) == 1 else None


def are_fractions(thing, many):
    return type(thing) is tuple and len(thing) == many and all(fraction_of(part) is not None for part in thing)


def same(thing, told):
    """Whether any value is a tuple of tuples as told, no bools in it."""
    if type(told) is not tuple:
        return type(thing) is type(told) and thing == told
    return type(thing) is tuple and len(thing) == len(told) and all(map(same, thing, told))


def is_paper(form, letters, thing):
    """What the document says of the paper for limits, equation by equation."""
    if type(thing) is not tuple or len(thing) != 4 or thing[0] != "limits":
        return False
    lots, stays, comes = thing[1:]
    if not same(lots, closed_lots(form, letters)):
        return False
    if type(stays) is not tuple or type(comes) is not tuple or not len(lots) == len(stays) == len(comes):
        return False
    return all(is_stay(form, letters, lot, stay) for lot, stay in zip(lots, stays)) and all(
        is_come(form, letters, lot, come) for lot, come in zip(lots, comes))


def is_stay(form, letters, lot, stay):
    states = lot[0]
    if not are_fractions(stay, len(states)):
        return False
    told = {state: Fraction(*share) for state, share in zip(states, stay)}
    if min(told.values()) <= 0 or sum(told.values()) != 1:
        return False
    return all(len(letters) * told[state] == sum(told[one] for one, _, goal in form.moves if goal == state and one in told)
               for state in states)


def is_come(form, letters, lot, come):
    states, around = lot
    if type(come) is not tuple or len(come) != around or not all(are_fractions(row, form.size) for row in come):
        return False
    turn_of = dict(zip(states, turns(form, letters, states)))
    told = [[Fraction(*share) for share in row] for row in come]
    for turn in range(around):
        for state in range(form.size):
            share = told[turn][state]
            if state in turn_of:
                right = share == (turn_of[state] == turn)
            elif not set(states) & reach(form, state):
                right = share == 0
            else:
                right = len(letters) * share == sum(told[(turn + 1) % around][goal] for goal in goals_of(form, state))
            if not right or not 0 <= share <= 1:
                return False
    return True


class LimitTest(unittest.TestCase):
    def test_examples(self):
        self.assertEqual(limits(ENDA, "ab"), ((1, 2),))
        self.assertEqual(limits(EVEN, "a"), ((1, 1), (0, 1)))
        self.assertEqual(limits_paper(EVEN, "a"), (
            "limits", (((0, 1), 2),), (((1, 2), (1, 2)),), ((((1, 1), (0, 1)), ((0, 1), (1, 1))),)))
        self.assertEqual(limits(EVEN, "ab"), ((0, 1),))

    def test_named(self):
        self.assertEqual(limits(PARTED, "ab"), ((1, 2), (0, 1), (1, 1), (0, 1), (1, 2), (1, 2)))
        self.assertEqual(limits(WAITING, "abc"), ((1, 2),))
        self.assertEqual(limits(APART, "ab"), ((0, 1),))
        self.assertEqual(limits(ALL, "ab"), ((1, 1),))
        self.assertEqual(limits(ALL, "abc"), ((0, 1),))
        self.assertEqual(limits(NONE, "a"), ((0, 1),))

    def test_against_shares(self):
        for form, letters in SAMPLES:
            told = limits(form=form, letters=letters)
            self.assertEqual(len(told), round_of(form, letters))
            for rest, limit in enumerate(told):
                self.assertIsNotNone(fraction_of(limit))
                # From 400 letters on nothing is left to come; each rest by itself comes near.
                length = rest + len(told) * (400 // len(told))
                share = Fraction(*share_at(form, letters, length))
                self.assertLess(abs(share - Fraction(*limit)), Fraction(1, 1000))

    def test_papers(self):
        for form, letters in SAMPLES:
            paper = limits_paper(form=form, letters=letters)
            self.assertIs(is_paper(form, letters, paper), True)
            self.assertIs(limits_hold(form, letters, paper), True)

    def test_changed_papers(self):
        seen = set()
        for number, (form, letters) in enumerate(SAMPLES):
            paper = limits_paper(form, letters)
            for thing in changed(paper, number, 25):
                right = is_paper(form, letters, thing)
                self.assertIs(limits_hold(form, letters, thing), right, thing)
                self.assertIs(right, same(thing, paper))
                seen.add(right)
        self.assertEqual(seen, {True, False})

    def test_any_values(self):
        for form, letters in SAMPLES[::7]:
            for thing in ANY:
                self.assertIs(limits_hold(form, letters, thing), is_paper(form, letters, thing))

    def test_nearly_right(self):
        lots, stays, comes = limits_paper(EVEN, "a")[1:]
        for thing in (
                ("limits", lots, (((2, 4), (1, 2)),), comes), ("limits", lots, (((1, 3), (2, 3)),), comes),
                ("limits", lots, stays, ((((True, 1), (0, 1)), ((0, 1), (1, 1))),)),
                ("limits", lots, stays, ((((1, 1), (0, 1)),),)), ("limits", lots, [stays[0]], comes),
                ("limits", (), (), ()), ("limits", lots, (), ()), ("limits", lots, stays),
                ("limits", ((lots[0][0], True),), stays, comes), ["limits", lots, stays, comes],
                ("limits", lots, stays, ((((0, 1), (1, 1)), ((1, 1), (0, 1))),)), ("thin", lots, stays, comes)):
            self.assertIs(limits_hold(EVEN, "a", thing), False, thing)
        self.assertIs(limits_hold(EVEN, "ab", ("limits", (), (), ())), True)


def is_thin_paper(form, letters, thing):
    """What the document says of the papers that a format is thin, or that it is not."""
    if type(thing) is not tuple:
        return False
    if len(thing) == 3 and thing[0] == "thick":
        lots = [states for states, _ in closed_lots(form, letters)]
        return any(same(thing[1], states) for states in lots) and (
            is_int(thing[2]) and thing[2] in thing[1] and thing[2] in form.ends)
    if len(thing) != 2 or thing[0] != "thin" or type(thing[1]) is not tuple or len(thing[1]) != form.size:
        return False
    return all(is_end_of_hope(form, letters, state, word) if state in reach(form, 0) else word is None
               for state, word in enumerate(thing[1]))


def is_end_of_hope(form, letters, state, word):
    if type(word) is not str or any(sign not in letters for sign in word):
        return False
    for letter in word:
        state = next((goal for one, sign, goal in form.moves if (one, sign) == (state, letter)), None)
        if state is None:
            return True
    return not reach(form, state) & set(form.ends)


class ThinTest(unittest.TestCase):
    def test_examples(self):
        self.assertIs(thin_holds(NOAA, "ab", ("thin", ("aa", "a"))), True)
        self.assertEqual(thin_bound(NOAA, "ab"), (2, (3, 4)))

    def test_thin(self):
        seen = set()
        for form, letters in SAMPLES:
            right = all(limit == (0, 1) for limit in limits(form, letters))
            seen.add(right)
            self.assertIs(is_thin(form=form, letters=letters), right)
            paper = thin_paper(form=form, letters=letters)
            self.assertEqual(paper[0], "thin" if right else "thick")
            self.assertIs(thin_holds(form, letters, paper), True)
            self.assertIs(is_thin_paper(form, letters, paper), True)
        self.assertEqual(seen, {True, False})

    def test_words_are_short(self):
        for form, letters in SAMPLES:
            paper = thin_paper(form, letters)
            if paper[0] == "thin":
                self.assertTrue(all(word is None or len(word) <= form.size for word in paper[1]))

    def test_bounds(self):
        for form, letters in SAMPLES:
            if not is_thin(form, letters):
                with self.assertRaises(NotThin) as caught:
                    thin_bound(form, letters)
                self.assertEqual(caught.exception.paper[0], "thick")
                self.assertIs(thin_holds(form, letters, caught.exception.paper), True)
                continue
            size, part = thin_bound(form=form, letters=letters)
            self.assertEqual(size, form.size)
            self.assertEqual(Fraction(*part), 1 - Fraction(1, len(letters)) ** size)
            for times in range(4):
                for length in (size * times, size * times + 3):
                    self.assertLessEqual(Fraction(*share_at(form, letters, length)), Fraction(*part) ** times)
        self.assertEqual(thin_bound(EMPTY, "a"), (1, (0, 1)))
        self.assertEqual(thin_bound(EMPTY, "xyz"), (1, (2, 3)))
        self.assertRaises(NotThin, thin_bound, ONES, "a")

    def test_longer_words(self):
        for words, right in ((("aa", "a"), True), (("aabab", "ab"), True), (("baa", "baab"), True), (("aa", "aab"), True),
                             (("aa", "b"), False), (("a", "a"), False), (("aac", "a"), False), (("aa", "aA"), False),
                             (("aa", None), False), (("aa",), False), (("aa", "a", None), False), (["aa", "a"], False),
                             (("", "a"), False), (("aa", ("a",)), False)):
            self.assertIs(thin_holds(NOAA, "ab", ("thin", words)), right, words)
        self.assertIs(thin_holds(NOAA, "abc", ("thin", ("c", "bbc"))), True)
        self.assertIs(thin_holds(APART, "ab", ("thin", ("b", None, None))), True)
        self.assertIs(thin_holds(APART, "ab", ("thin", ("b", "", None))), False)
        self.assertIs(thin_holds(NONE, "ab", ("thin", ("",))), True)

    def test_thick(self):
        self.assertIs(thin_holds(PARTED, "ab", ("thick", (3, 4, 5), 4)), True)
        self.assertIs(thin_holds(PARTED, "ab", ("thick", (1, 2), 2)), True)
        for states, end in (((3, 4, 5), 5), ((1, 2), 1), ((1, 2), 4), ((4, 5), 4), ((1, 2, 3, 4, 5), 4), ([1, 2], 2),
                            ((2, 1), 2), ((True, 2), 2), ((1, 2), "2"), ((1, 2), None), ((1, 2), (2,)), ((), 2)):
            self.assertIs(thin_holds(PARTED, "ab", ("thick", states, end)), False)
        self.assertIs(thin_holds(PARTED, "abc", ("thick", (1, 2), 2)), False)
        self.assertIs(thin_holds(APART, "ab", ("thick", (1, 2), 1)), False)
        self.assertIs(thin_holds(EVEN, "a", ("thick", (0, 1), False)), False)
        self.assertIs(thin_holds(EVEN, "a", ("thick", (0, 1), 0)), True)

    def test_any_values(self):
        for form, letters in SAMPLES[::7]:
            for thing in ANY:
                self.assertIs(thin_holds(form, letters, thing), is_thin_paper(form, letters, thing))

    def test_changed_papers(self):
        seen = set()
        for number, (form, letters) in enumerate(SAMPLES):
            paper = thin_paper(form, letters)
            for thing in changed(paper, number, 25):
                right = is_thin_paper(form, letters, thing)
                self.assertIs(thin_holds(form, letters, thing), right, thing)
                seen.add((paper[0], right))
        self.assertEqual(len(seen), 4)
