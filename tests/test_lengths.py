"""Lots of lengths, against lengths gone through one by one."""

import copy
import itertools
import random
import unittest

from serialhouse.errors import BadLot
from serialhouse.lengths import Lengths
from tests.helper import ANY

FAR = 90


def told(lot):
    return lot.few, lot.first, lot.around, lot.rests


def members(few, first, around, rests, most=FAR):
    """The lengths up to a most, as the words tell them."""
    return [length for length in range(most) if (length in few if length < first else length % around in rests)]


def least_pair(lengths, most, half):
    """The least pair of what comes round, found by trying all: first and around are less than half of most."""
    for around in range(1, half):
        for first in range(half):
            if all((length in lengths) == (length + around in lengths) for length in range(first, most - around)):
                return first, around
    return None


def some_parts(many, seed):
    """Parts of lots, often not by the least pair; the same ones each time."""
    source = random.Random(seed)
    made = [((), 0, 1, ()), ((), 0, 1, (0,)), ((0,), 2, 4, (0, 2)), ((0, 2), 4, 2, (0,)), ((1,), 3, 6, (1, 3, 5))]
    while len(made) < many:
        first = source.randint(0, 9)
        around = source.choice((1, 1, 2, 3, 4, 6, 8, 5))
        few = tuple(length for length in range(first) if source.random() < 0.5)
        rests = tuple(rest for rest in range(around) if source.random() < 0.5)
        if source.random() < 0.4:
            few = tuple(length for length in range(first) if length % around in rests)
        made.append((few, first, around, rests))
    return made


PARTS = some_parts(120, 1)
LOTS = [(parts, Lengths(*parts)) for parts in PARTS]


class MadeTest(unittest.TestCase):
    def test_examples(self):
        self.assertEqual(told(Lengths((0,), 2, 4, (0, 2))), ((), 0, 2, (0,)))
        self.assertEqual(told(Lengths((), 0, 2, (0,)) & Lengths((), 0, 3, (1,))), ((), 0, 6, (4,)))
        self.assertEqual(told(Lengths((), 7, 5, ())), ((), 0, 1, ()))
        self.assertEqual(told(Lengths((0, 1, 2), 3, 2, (0, 1))), ((), 0, 1, (0,)))
        self.assertEqual(told(Lengths((1, 5), 9, 3, ())), ((1, 5), 6, 1, ()))

    def test_least_pair(self):
        for parts, lot in LOTS:
            lengths = set(members(*parts))
            self.assertEqual((lot.first, lot.around), least_pair(lengths, FAR, 20), parts)
            self.assertEqual(lot.few, tuple(sorted(length for length in lengths if length < lot.first)))
            rests = {length % lot.around for length in lengths if length >= lot.first}
            self.assertEqual(lot.rests, tuple(sorted(rests)))

    def test_however_made(self):
        for parts, lot in LOTS:
            few, first, around, rests = parts
            for more, times in ((0, 2), (0, 3), (1, 1), (4, 2), (7, 5)):
                longer = tuple(members(*parts, first + more))
                wider = tuple(rest + turn * around for turn in range(times) for rest in rests)
                self.assertEqual(told(Lengths(longer, first + more, around * times, wider)), told(lot))
                self.assertEqual(told(Lengths(few=longer, first=first + more, around=around * times, rests=wider)),
                                 told(lot))

    def test_great_integers(self):
        great = 10 ** 59
        self.assertEqual(told(Lengths((), great, great, ())), ((), 0, 1, ()))
        self.assertEqual(told(Lengths((great,), great + 1, great, ())), ((great,), great + 1, 1, ()))
        self.assertEqual(told(Lengths((3, great), great + 7, 1, ())), ((3, great), great + 1, 1, ()))
        self.assertEqual(told(Lengths((), 0, 2 * great, (0, great))), ((), 0, great, (0,)))
        self.assertEqual(told(Lengths((), 0, 2 * great, (0, great + 1))), ((), 0, 2 * great, (0, great + 1)))
        self.assertEqual(told(Lengths((), great, 1, (0,))), ((), great, 1, (0,)))
        self.assertEqual(told(Lengths((great - 1,), great, 1, (0,))), ((), great - 1, 1, (0,)))
        self.assertEqual(told(Lengths((5,), great, great, (5,))), ((), 0, great, (5,)))
        self.assertEqual(told(Lengths((5, great + 5), 2 * great, 3 * great, (5, great + 5, 2 * great + 5))),
                         ((), 0, great, (5,)))
        self.assertEqual(told(Lengths((6,), great, great, (5,))), ((6,), 7, great, (5,)))

    def test_great_lots_are_used(self):
        great = 10 ** 29
        lot = Lengths((), 0, 2 * great, (0, great + 1))
        self.assertIn(5 * great + 1, lot)
        self.assertNotIn(5 * great, lot)
        self.assertEqual((lot.at(0), lot.at(1), lot.at(10 ** 20)), (0, great + 1, 10 ** 20 * great))
        self.assertEqual(lot.below(10 ** 9 * great), 10 ** 9)
        self.assertTrue(lot == Lengths((0,), 1, 4 * great, (0, great + 1, 2 * great, 3 * great + 1)))
        few = Lengths((1, great), great + 1, 1, ())
        self.assertEqual(told(few | Lengths((2,), 3, 1, ())), ((1, 2, great), great + 1, 1, ()))
        self.assertEqual(few.first_apart(Lengths((1,), 2, 1, ())), great)
        self.assertFalse(few.is_within(Lengths((1,), 2, 1, ())))
        self.assertEqual(told(few.moved(2000)), ((2001, great + 2000), great + 2001, 1, ()))

    def test_many_rests(self):
        evens = Lengths((), 0, 20000, tuple(range(0, 20000, 2)))
        self.assertEqual(told(evens), ((), 0, 2, (0,)))
        self.assertEqual(told(Lengths(tuple(range(0, 2000, 2)), 2000, 2000, tuple(range(1, 2000, 2))))[1:],
                         (2000, 2, (1,)))

    def test_what_is_passed_stays(self):
        for parts in PARTS[:20]:
            before = copy.deepcopy(parts)
            one, other = Lengths(*parts), Lengths((1,), 4, 6, (1, 2))
            shapes = vars(one).copy(), vars(other).copy()
            for made in (one & other, one | other, one - other, ~one, one.moved(3)):
                self.assertIsInstance(made, Lengths)
            one.is_within(other), one.first_apart(other), one.at(3), one.below(9), one.is_endless(), one == other
            self.assertEqual((vars(one), vars(other)), shapes)
            self.assertEqual(parts, before)


class BadTest(unittest.TestCase):
    def part(self, *parts):
        with self.assertRaises(BadLot) as caught:
            Lengths(*parts)
        return caught.exception.part

    def test_any_values(self):
        right = {
            "few": [thing for thing in ANY if type(thing) is tuple and all(type(each) is int for each in thing)
                    and list(thing) == sorted(set(thing)) and (not thing or thing[0] >= 0)],
            "first": [0, 1, 2, 10 ** 59], "around": [1, 2, 10 ** 59]}
        for few, first, around, rests in itertools.product(ANY[:40], (ANY[3], True, 3, -1, "a"), (0, 1, True, 4, (1,)),
                                                           ((), (0,), (True,), [0], (3,), (4,), (1, 0), None)):
            if not any(few is each for each in right["few"]):
                part = "few"
            elif type(first) is not int or first < 0 or few and few[-1] >= first:
                part = "first"
            elif type(around) is not int or around < 1:
                part = "around"
            elif type(rests) is not tuple or any(type(each) is not int or not 0 <= each < around for each in rests) or (
                    list(rests) != sorted(set(rests))):
                part = "rests"
            else:
                Lengths(few, first, around, rests)
                continue
            self.assertEqual(self.part(few, first, around, rests), part)

    def test_each_part_any_value(self):
        for thing in ANY:
            if not (type(thing) is tuple and all(type(each) is int and each >= 0 for each in thing)
                    and list(thing) == sorted(set(thing))):
                self.assertEqual(self.part(thing, "a", 0, ""), "few")
                self.assertEqual(self.part((), 0, 10 ** 60, thing), "rests")
            if type(thing) is not int or thing < 0:
                self.assertEqual(self.part((), thing, None, None), "first")
            if type(thing) is not int or thing < 1:
                self.assertEqual(self.part((0,), 1, thing, (1,)), "around")

    def test_order(self):
        self.assertEqual(self.part((1, 1), 0, 0, (0,)), "few")
        self.assertEqual(self.part((0, 3), 3, 0, (0,)), "first")
        self.assertEqual(self.part((0, 3), 4, 0, (0,)), "around")
        self.assertEqual(self.part((0, 3), 4, 2, (0, 2)), "rests")
        self.assertEqual(self.part((0, True), 4, 2, (0,)), "few")
        self.assertEqual(self.part((-1,), 4, 2, (0,)), "few")
        self.assertEqual(self.part((-7, 3), 4, 2, (0,)), "few")
        self.assertEqual(self.part((3,), 4, 2, (-1,)), "rests")
        self.assertEqual(self.part((3,), 4, -2, (0,)), "around")
        self.assertEqual(self.part((), -1, 1, (0,)), "first")


class AskedTest(unittest.TestCase):
    def test_equal(self):
        for one, mine in LOTS:
            for other, yours in LOTS[:40]:
                self.assertIs(mine == yours, members(*one) == members(*other))
            for thing in ANY:
                right = isinstance(thing, Lengths) and told(thing) == told(mine)
                self.assertIs(mine == thing, right)
                self.assertIs(thing == mine, right)
            self.assertFalse(mine == told(mine))

    def test_in(self):
        for parts, lot in LOTS:
            lengths = members(*parts)
            for length in range(FAR):
                self.assertIs(length in lot, length in lengths)
            for thing in ANY:
                if type(thing) is not int:
                    self.assertIs(thing in lot, False)
            self.assertIs(-1 in lot, False)
            self.assertIs(-10 ** 59 in lot, False)
            self.assertIs(True in lot, False)
            self.assertIs(lot in lot, False)
            around = 10 ** 30 * parts[2]
            for rest in range(parts[2]):
                self.assertIs(around + rest in lot, rest in parts[3])

    def test_joined(self):
        for (one, mine), (other, yours) in itertools.product(LOTS[:45], LOTS[::3]):
            first, second = set(members(*one, 400)), set(members(*other, 400))
            for lot, right in ((mine & yours, first & second), (mine | yours, first | second),
                               (mine - yours, first - second)):
                self.assertEqual(members(*told(lot), 400), sorted(right))
                self.assertEqual(told(lot), told(Lengths(*told(lot))))
            apart = sorted(first ^ second)
            self.assertEqual(mine.first_apart(yours), apart[0] if apart else None)
            self.assertIs(mine.is_within(yours), first <= second)

    def test_joined_are_least(self):
        for (_, mine), (_, yours) in itertools.product(LOTS[:12], LOTS[:12]):
            for lot in (mine & yours, mine | yours, mine - yours, ~mine, mine.moved(5)):
                lengths = set(members(*told(lot), 400))
                self.assertEqual(least_pair(lengths, 400, 60), (lot.first, lot.around))

    def test_others(self):
        for parts, lot in LOTS:
            self.assertEqual(members(*told(~lot)), sorted(set(range(FAR)) - set(members(*parts))))
            self.assertTrue(~~lot == lot)
        self.assertEqual(told(~Lengths((), 0, 1, ())), ((), 0, 1, (0,)))

    def test_moved(self):
        for parts, lot in LOTS:
            for by in (0, 1, 5, 12):
                right = [length + by for length in members(*parts)]
                self.assertEqual(members(*told(lot.moved(by))), [length for length in right if length < FAR])
            self.assertEqual(told(lot.moved(by=0)), told(lot))

    def test_at_and_below(self):
        for parts, lot in LOTS:
            lengths = members(*parts)
            for index in range(40):
                if index < len(lengths):
                    self.assertEqual(lot.at(index), lengths[index])
                elif not parts[3]:
                    self.assertIsNone(lot.at(index))
            for length in range(FAR):
                self.assertEqual(lot.below(length), len([each for each in lengths if each < length]))
            self.assertIs(lot.is_endless(), len(parts[3]) > 0)
            if parts[3]:
                index = 10 ** 30 - 1
                self.assertEqual(lot.below(length=lot.at(index=index)), index)
                self.assertIn(lot.at(index), lot)
            else:
                self.assertIsNone(lot.at(10 ** 30 - 1))
                self.assertEqual(lot.below(10 ** 30 - 1), len(lengths))

    def test_wide_lots(self):
        one = Lengths(tuple(range(0, 1900, 7)), 2000, 1999, tuple(range(0, 1999, 3)))
        other = Lengths((5,), 1990, 10, (0, 3))
        lengths = set(members(*told(one), 26000))
        others = set(members(*told(other), 26000))
        self.assertEqual(members(*told(one & other), 26000), sorted(lengths & others))
        self.assertEqual(members(*told(one - other), 26000), sorted(lengths - others))
        self.assertEqual(one.first_apart(other), min(lengths ^ others))
        self.assertTrue((one & other).is_within(one))
        self.assertTrue(one.is_within(one | other))
