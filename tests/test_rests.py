"""Codes read in one way or not, and looks, against messages gone through; papers by anyone."""

import itertools
import unittest

from serialhouse.codes import Code
from serialhouse.errors import TwoWays
from serialhouse.rests import (
    code_holds, is_one_way, is_without_beginnings, judge_code, judge_look, look, look_holds)
from tests.helper import (
    ANY, BARE, CODES, LATE, NEAR, ONE, SINGLE, TWO, changed, messages_to, some_codes, text_of)


def told_message(code, thing):
    return type(thing) is tuple and all(type(part) is int and 0 <= part < len(code.words) for part in thing)


def is_of(code, thing):
    return type(thing) is str and thing != "" and set(thing) <= set(code.letters)


def starting(code):
    """The rests that words have behind shorter ones."""
    return [y[len(x):] for x in code.words for y in code.words if len(x) < len(y) and y.startswith(x)]


def told_code_paper(code, thing):
    """Whether a value is a paper of [9.2], as it is told there."""
    if type(thing) is not tuple or not thing or type(thing[0]) is not str:
        return False
    if thing[0] == "two":
        return (len(thing) == 3 and told_message(code, thing[1]) and told_message(code, thing[2])
                and thing[1] != thing[2] and text_of(code, thing[1]) == text_of(code, thing[2]))
    if thing[0] != "one" or len(thing) != 2 or type(thing[1]) is not tuple:
        return False
    rests = thing[1]
    if not all(is_of(code, rest) and rest not in code.words for rest in rests) or list(rests) != sorted(set(rests)):
        return False
    further = starting(code)
    for rest in rests:
        for word in code.words:
            if len(word) < len(rest) and rest.startswith(word):
                further.append(rest[len(word):])
            if len(rest) < len(word) and word.startswith(rest):
                further.append(word[len(rest):])
    return set(further) <= set(rests)


def common(one, other):
    many = 0
    while many < min(len(one), len(other)) and one[many] == other[many]:
        many += 1
    return many


def told_look_paper(code, thing):
    """Whether a value is a paper of [9.5], as it is told there; the code being read in one way for within."""
    if type(thing) is not tuple or not thing or type(thing[0]) is not str:
        return False
    if thing[0] == "endless":
        return len(thing) == 5 and all(told_message(code, part) for part in thing[1:]) and told_endless(code, *thing[1:])
    if thing[0] != "within" or len(thing) != 3 or type(thing[1]) is not int or thing[1] < 0:
        return False
    table = thing[2]
    if type(table) is not tuple or not is_one_way(code):
        return False
    for pair in table:
        if type(pair) is not tuple or len(pair) != 2 or not is_of(code, pair[0]) or type(pair[1]) is not int or pair[1] < 0:
            return False
    rests = [pair[0] for pair in table]
    if rests != sorted(set(rests)):
        return False
    numbers = dict(table)
    for rest, number in table:
        for word in code.words:
            if number < common(rest, word):
                return False
            for short, long in ((word, rest), (rest, word)):
                if len(short) < len(long) and long.startswith(short):
                    if long[len(short):] not in numbers or number < len(short) + numbers[long[len(short):]]:
                        return False
    return all(rest in numbers and numbers[rest] < thing[1] for rest in starting(code))


def told_endless(code, one, other, further, more):
    if not one or not other or one[0] == other[0] or not further or not more:
        return False
    behind, ahead = text_of(code, one), text_of(code, other)
    rest = ahead[len(behind):]
    return behind + rest == ahead and text_of(code, further) + rest == rest + text_of(code, more)


def alike(code, most):
    """The least length to so many letters that two messages have when they are written alike, None if none is met."""
    met = {}
    for message in messages_to(code, most):
        met.setdefault(text_of(code, message), []).append(message)
    return min((len(text) for text, messages in met.items() if len(messages) > 1), default=None)


def greatest_common(code, most):
    """The greatest number of letters in common behind the end of the shorter first word, and -1 without such words."""
    best = -1
    texts = [(message[0], text_of(code, message)) for message in messages_to(code, most) if message]
    for (first, one), (further, other) in itertools.combinations(texts, 2):
        if first != further:
            best = max(best, common(one, other) - min(len(code.words[first]), len(code.words[further])))
    return best


class WayTest(unittest.TestCase):
    def test_against_messages(self):
        ways = []
        for code in some_codes(150, 421, 4, 3):
            length = alike(code, 9 if len(code.words) < 4 else 7)
            paper = judge_code(code)
            self.assertIs(code_holds(code, paper), True)
            self.assertTrue(told_code_paper(code, paper))
            self.assertIs(is_one_way(code), paper[0] == "one")
            if length is not None:
                self.assertEqual(paper[0], "two")
            if paper[0] == "two" and (length is not None or len(text_of(code, paper[1])) <= 7):
                self.assertEqual(len(text_of(code, paper[1])), length)
            ways.append(paper[0])
            self.assertIs(is_without_beginnings(code), not starting(code))
        self.assertGreater(min(ways.count("one"), ways.count("two")), 30)

    def test_longer_words(self):
        for code in some_codes(200, 422, 8, 6):
            self.assertTrue(told_code_paper(code, judge_code(code)))

    def test_as_short_as_can_be(self):
        # Two ways with a few long words, and with many short ones.
        code = Code("ab", ("a", "ab", "ba", "bbbbb", "abbbbb"))
        self.assertEqual(judge_code(code)[0], "two")
        self.assertEqual(len(text_of(code, judge_code(code)[1])), 3)
        code = Code("abc", ("a", "abbbbb", "bbbbb", "ac", "cc", "acc"))
        self.assertEqual(len(text_of(code, judge_code(code)[1])), 3)
        code = Code("a", ("aaaaaa", "aaaaa"))
        self.assertEqual(len(text_of(code, judge_code(code)[1])), 11 if alike(code, 29) == 11 else 30)

    def test_one_thing_otherwise(self):
        right = 0
        for number, code in enumerate(some_codes(60, 423)):
            paper = judge_code(code)
            for thing in changed(paper, number, 80):
                self.assertIs(code_holds(code, thing), told_code_paper(code, thing))
                right += code_holds(code, thing)
        self.assertGreater(right, 10)

    def test_further_rests_and_left_out_ones(self):
        for code in some_codes(60, 424):
            paper = judge_code(code)
            if paper[0] == "two":
                for message in ((0,), (1, 0)):
                    longer = ("two", message + paper[1], message + paper[2])
                    self.assertIs(code_holds(code, longer), told_code_paper(code, longer))
                    self.assertIs(code_holds(code, ("two", message, message)), False)
                continue
            for word in ("a", "b", "ab", "bb", "bab", "aaa", "c", ""):
                thing = ("one", tuple(sorted({*paper[1], word})))
                self.assertIs(code_holds(code, thing), told_code_paper(code, thing))
            for at in range(len(paper[1])):
                thing = ("one", paper[1][:at] + paper[1][at + 1:])
                self.assertIs(code_holds(code, thing), False)
        self.assertIs(code_holds(SINGLE, ("one", ("a",))), True)
        self.assertIs(code_holds(SINGLE, ("one", ("aa",))), False)
        self.assertIs(code_holds(BARE, ("one", ("b", "ba"))), True)
        self.assertIs(code_holds(BARE, ("one", ("c",))), False)
        self.assertIs(code_holds(BARE, ("two", (), ())), False)

    def test_any_value(self):
        for code in CODES:
            for thing in ANY:
                for paper in (thing, ("one", thing), ("two", thing, thing), ("two", (0,), thing), ("one", thing, thing)):
                    self.assertIs(code_holds(code, paper), told_code_paper(code, paper))
                    self.assertIs(look_holds(code, paper), told_look_paper(code, paper))
                for paper in (("within", thing, ()), ("within", 2, thing), ("within", thing), ("within", 9, (thing,)),
                              ("within", 9, ((thing, 3),)), ("within", 9, (("ab", thing), ("b", 0)))):
                    self.assertIs(look_holds(code, paper), told_look_paper(code, paper))
                for at in range(1, 5):
                    paper = ("endless", (0,), (1,), (2,), (2,))
                    paper = paper[:at] + (thing,) + paper[at + 1:]
                    self.assertIs(look_holds(code, paper), told_look_paper(code, paper))


class LookTest(unittest.TestCase):
    def test_against_messages(self):
        found = []
        for code in some_codes(250, 425, 3, 3) + some_codes(150, 426, 2, 5):
            if not is_one_way(code):
                for call in (look, judge_look):
                    with self.assertRaises(TwoWays) as caught:
                        call(code)
                    self.assertEqual(caught.exception.paper[0], "two")
                    self.assertTrue(told_code_paper(code, caught.exception.paper))
                continue
            paper = judge_look(code)
            self.assertTrue(told_look_paper(code, paper))
            self.assertIs(look_holds(code, paper), True)
            most = greatest_common(code, 8)
            found.append(look(code))
            if look(code) is None:
                self.assertEqual(paper[0], "endless")
                continue
            self.assertEqual(paper[:2], ("within", look(code)))
            self.assertLess(most, look(code))
            self.assertIs(look(code) == 0, is_without_beginnings(code))
            if most < 0:
                self.assertEqual(look(code), 0)
            elif look(code) <= 4:
                self.assertEqual(most, look(code) - 1)
        self.assertGreater(found.count(None), 5)
        self.assertGreater(len(set(found)), 3)

    def test_no_look(self):
        for code in (ONE, LATE, Code("ab", ("ab", "abb", "bba", "baa")), Code("abc", ("a", "ab", "bc", "cb", "c")[:4])):
            if is_one_way(code) and look(code) is None:
                kind, one, other, further, more = judge_look(code)
                behind, ahead = text_of(code, one), text_of(code, other)
                for many in range(4):
                    mine, yours = behind + text_of(code, further) * many, ahead + text_of(code, more) * many
                    self.assertGreaterEqual(common(mine, yours), min(len(mine), len(yours)))
        self.assertIsNone(look(ONE))
        self.assertIsNone(look(LATE))

    def test_longer_words(self):
        kinds = []
        for code in some_codes(400, 427, 8, 6) + some_codes(400, 428, 3, 6):
            if is_one_way(code):
                paper = judge_look(code)
                kinds.append(paper[0])
                self.assertTrue(told_look_paper(code, paper))
                if paper[0] == "within":
                    self.assertEqual(look(code), paper[1])
                    # The look is the least one: no lesser one has a table, so not this one.
                    self.assertIs(look_holds(code, ("within", paper[1] - 1, paper[2])), False)
        self.assertGreater(min(kinds.count("within"), kinds.count("endless")), 10)

    def test_long_looks(self):
        for many in range(1, 6):
            code = Code("ab", ("a", "a" * many + "b"))
            self.assertEqual(look(code), many if many > 1 else 1)
        self.assertEqual(look(Code("ab", ("a", "ab"))), 1)
        self.assertEqual(look(Code("ab", ("a", "aaaaab"))), 5)
        self.assertEqual(look(BARE), 0)
        self.assertEqual(look(SINGLE), 0)
        self.assertEqual(judge_look(SINGLE), ("within", 0, ()))

    def test_tables(self):
        self.assertIs(look_holds(NEAR, ("within", 2, (("ab", 1), ("b", 0)))), True)
        self.assertIs(look_holds(NEAR, ("within", 1, (("ab", 1), ("b", 0)))), False)
        self.assertIs(look_holds(NEAR, ("within", 3, (("ab", 2), ("b", 0)))), True)
        self.assertIs(look_holds(NEAR, ("within", 3, (("ab", 2), ("b", 1)))), True)
        self.assertIs(look_holds(NEAR, ("within", 3, (("ab", 1), ("b", 1)))), False)
        self.assertIs(look_holds(NEAR, ("within", 2, (("ab", 1),))), False)
        self.assertIs(look_holds(NEAR, ("within", 2, (("b", 0),))), False)
        self.assertIs(look_holds(NEAR, ("within", 10 ** 59, (("ab", 1), ("b", 0)))), True)
        self.assertIs(look_holds(NEAR, ("within", 2, (("ab", 1), ("b", 0), ("bb", 0)))), True)
        self.assertIs(look_holds(NEAR, ("within", 2, (("aab", 3), ("ab", 1), ("b", 0)))), True)
        self.assertIs(look_holds(NEAR, ("within", 2, (("aab", 2), ("ab", 1), ("b", 0)))), False)
        self.assertIs(look_holds(NEAR, ("within", 2, (("b", 0), ("ab", 1)))), False)
        self.assertIs(look_holds(NEAR, ("within", 2, (("ab", 1), ("ab", 2), ("b", 0)))), False)
        self.assertIs(look_holds(NEAR, ("within", True, (("ab", 1), ("b", 0)))), False)
        self.assertIs(look_holds(NEAR, ("within", 2, (("ab", True), ("b", 0)))), False)
        # Here nothing but the two ways of reading is against it.
        self.assertIs(look_holds(Code("ab", ("a", "ab", "b")), ("within", 2, (("b", 1),))), False)
        self.assertIs(look_holds(Code("ab", ("a", "ab")), ("within", 1, (("b", 0),))), True)
        self.assertIs(look_holds(TWO, ("within", 10 ** 9, (("a", 10 ** 9), ("b", 10 ** 9)))), False)

    def test_endless_ones(self):
        self.assertIs(look_holds(ONE, ("endless", (0, 2), (1, 2), (2, 2), (2, 2))), True)
        self.assertIs(look_holds(ONE, ("endless", (1,), (0,), (2,), (2,))), False)
        self.assertIs(look_holds(ONE, ("endless", (0,), (1,), (), ())), False)
        self.assertIs(look_holds(ONE, ("endless", (0,), (0, 2), (2,), (2,))), False)
        self.assertIs(look_holds(ONE, ("endless", (0,), (1,), (2,), (2, 2))), False)
        self.assertIs(look_holds(ONE, ("endless", (), (1,), (2,), (2,))), False)
        # Papers with endless hold by themselves, of whatever code; the rest may be empty.
        self.assertIs(look_holds(TWO, ("endless", (0, 2), (1, 0), (0,), (0,))), True)
        self.assertIs(look_holds(TWO, ("endless", (0, 2), (1, 0), (0,), (1,))), False)

    def test_one_thing_otherwise(self):
        right = 0
        for number, code in enumerate(some_codes(80, 429)):
            if is_one_way(code):
                paper = judge_look(code)
                for thing in changed(paper, number, 80):
                    self.assertIs(look_holds(code, thing), told_look_paper(code, thing))
                    right += look_holds(code, thing) and thing != paper
        self.assertGreater(right, 10)
