"""Papers about readings, right ones and others, against what the document says of them."""

import itertools
import unittest

from serialhouse.readingchecks import readings_hold
from serialhouse.readings import judge_readings
from serialhouse.sheets import Sheet
from tests.helper import ANY, LAST, NOAA, TWICE, changed, some_sheets, ways, words_to


def is_state(sheet, thing):
    return type(thing) is int and 0 <= thing < sheet.size


def is_right(sheet, thing):
    """What the document says, read off the moves one by one."""
    if type(thing) is not tuple or not thing or type(thing[0]) is not str:
        return False
    if thing[0] == "two" and len(thing) == 4:
        _, word, one, other = thing
        if type(word) is not str or not all("a" <= sign <= "z" for sign in word) or len(word) > 9:
            return False
        if not all(type(row) is tuple and all(is_state(sheet, state) for state in row) for row in (one, other)):
            return False
        return one != other and one in ways(sheet, word) and other in ways(sheet, word)
    return thing[0] == "one" and len(thing) == 2 and are_right_pairs(sheet, thing[1])


def are_right_pairs(sheet, pairs):
    if type(pairs) is not tuple:
        return False
    if not all(type(pair) is tuple and len(pair) == 2 and all(is_state(sheet, state) for state in pair)
               and pair[0] < pair[1] for pair in pairs):
        return False
    if list(pairs) != sorted(set(pairs)):
        return False
    met = {0}
    live = set(sheet.ends)
    for _ in range(sheet.size):
        met |= {goal for state, _, goal in sheet.moves if state in met}
        live |= {state for state, _, goal in sheet.moves if goal in live}
    for one, other in itertools.product(sheet.moves, repeat=2):
        goals = tuple(sorted((one[2], other[2])))
        if one[1] != other[1]:
            continue
        if one[0] == other[0] and one[0] in met and one[2] != other[2] and goals not in pairs:
            return False
        if (one[0], other[0]) in pairs:
            if goals[0] == goals[1] and goals[0] in live or goals[0] != goals[1] and goals not in pairs:
                return False
    return not any(one in sheet.ends and other in sheet.ends for one, other in pairs)


class HoldTest(unittest.TestCase):
    def test_papers_that_are_told(self):
        for sheet in some_sheets(150, 41):
            paper = judge_readings(sheet)
            self.assertIs(readings_hold(sheet, paper), True)
            self.assertIs(readings_hold(thing=paper, sheet=sheet), True)
            self.assertTrue(is_right(sheet, paper))

    def test_all_sets_of_pairs(self):
        for sheet in some_sheets(60, 42, size=3) + [LAST, TWICE]:
            pairs = list(itertools.combinations(range(sheet.size), 2))
            for many in range(len(pairs) + 1):
                for some in itertools.combinations(pairs, many):
                    self.assertIs(readings_hold(sheet, ("one", some)), are_right_pairs(sheet, some))

    def test_pairs_more_and_less(self):
        sheet = Sheet(5, ((0, "a", 1), (0, "a", 2), (3, "b", 3), (4, "b", 4)), (1, 3))
        self.assertIs(readings_hold(sheet, ("one", ((1, 2),))), True)
        self.assertIs(readings_hold(sheet, ("one", ())), False)
        self.assertIs(readings_hold(sheet, ("one", ((1, 2), (3, 4)))), True)
        self.assertIs(readings_hold(sheet, ("one", ((1, 2), (1, 3)))), False)
        self.assertIs(readings_hold(sheet, ("one", ((1, 2), (1, 4)))), True)
        sheet = Sheet(5, ((0, "a", 1), (0, "a", 2), (3, "b", 3), (4, "b", 3)), (1, 3))
        self.assertIs(readings_hold(sheet, ("one", ((1, 2), (3, 4)))), False)
        sheet = Sheet(5, ((0, "a", 1), (0, "a", 2), (3, "b", 3), (4, "b", 3)), (1,))
        self.assertIs(readings_hold(sheet, ("one", ((1, 2), (3, 4)))), True)

    def test_pairs_that_are_none(self):
        self.assertIs(readings_hold(LAST, ("one", ((0, 1),))), True)
        for pairs in (None, [], [(0, 1)], {}, ((1, 0),), ((0, 1), (0, 1)), ([0, 1],), ((False, 1),), ((0, True),),
                      ((0, 1), (0, 2)), ((0, 1), (-1, 0)), ((0, 1, 2),), ((0,),), (0, 1), ((0, "b"),), ((0, 0), (0, 1)),
                      ((0, 1), None)):
            self.assertIs(readings_hold(LAST, ("one", pairs)), False, pairs)
        for thing in (("one", ((0, 1),), ()), ("one",), ["one", ((0, 1),)], ("two", ((0, 1),)), ("One", ((0, 1),)),
                      (("one",), ((0, 1),)), ((0, 1),)):
            self.assertIs(readings_hold(LAST, thing), False, thing)

    def test_one_state_is_no_pair(self):
        sheet = Sheet(3, ((0, "a", 1),), (1,))
        self.assertIs(readings_hold(sheet, ("one", ((1, 2),))), True)
        self.assertIs(readings_hold(sheet, ("one", ((2, 2),))), False)

    def test_two_readings(self):
        one, other = (0, 0, 1), (0, 1, 1)
        self.assertIs(readings_hold(TWICE, ("two", "aa", one, other)), True)
        self.assertIs(readings_hold(TWICE, ("two", "aa", other, one)), True)
        self.assertIs(readings_hold(TWICE, ("two", "aaa", (0, 0, 0, 1), (0, 1, 1, 1))), True)
        for thing in (("two", "aa", one, one), ("two", "aa", one, (0, 0, 1, 1)), ("two", "ab", one, other),
                      ("two", "aaa", one, other), ("two", "aa", one, (0, 0, 0)), ("two", "aa", one, (1, 1, 1)),
                      ("two", "aa", list(one), other), ("two", "aa", one, list(other)), ("two", ("a", "a"), one, other),
                      ("two", "aa", (False, 0, 1), other), ("two", "aa", one, (0, True, 1)), ("two", "aa", one),
                      ("two", "aa", one, other, other), ("two", "aa", one, (0, 2, 1)), ("two", "aa", one, (0, -1, 1)),
                      ("two", "aa", one, None), ("two", None, one, other), ("two", "AA", one, other),
                      ("two", "a", (0, 1), (0, 0, 1)), ("two", "", (), (0,)), ("two", "", (0,), (0,))):
            self.assertIs(readings_hold(TWICE, thing), False, thing)

    def test_any_value(self):
        for sheet in (TWICE, LAST, NOAA.sheet):
            for thing in ANY:
                for paper in (thing, ("one", thing), ("two", thing, (0, 0, 1), (0, 1, 1)),
                              ("two", "aa", thing, (0, 1, 1)), ("two", "aa", (0, 0, 1), thing), (thing, ()),
                              ("one", (thing,)), ("one", ((0, thing),)), ("one", ((thing, 1),)),
                              ("two", "aa", (0, thing, 1), (0, 1, 1))):
                    self.assertIs(readings_hold(sheet, paper), is_right(sheet, paper))

    def test_changed_papers(self):
        for at, sheet in enumerate(some_sheets(80, 43)):
            paper = judge_readings(sheet)
            if paper[0] == "two" and len(paper[1]) > 4:
                continue
            for thing in changed(paper, at, 60):
                before = repr(thing)
                self.assertIs(readings_hold(sheet, thing), is_right(sheet, thing), repr(thing))
                self.assertEqual(repr(thing), before)

    def test_longer_words_of_two_readings(self):
        for sheet in some_sheets(30, 44, size=3):
            for word in words_to("ab", 4):
                told = ways(sheet, word)
                for one, other in itertools.islice(itertools.product(told, repeat=2), 30):
                    self.assertIs(readings_hold(sheet, ("two", word, one, other)), one != other)
