"""Least totals, against all lengths whose share is at most 1."""

import itertools
import random
import unittest
from fractions import Fraction

from serialhouse.codes import Code
from serialhouse.rests import is_without_beginnings
from serialhouse.totals import best_code, joins_for, joins_hold, least_total, total_of
from tests.helper import ANY, ONE, changed

WEIGHTS = [(5, 1, 1, 3), (1, 1, 1, 1), (0,), (7,), (0, 0), (0, 0, 0), (0, 0, 5), (10 ** 6,) * 8, (1, 2, 4, 8, 16, 32, 64, 128),
           (1, 1, 2, 3, 5, 8, 13, 21), (4, 4, 4), (3, 0, 0, 0, 0, 2), (2, 2, 1, 1), (10 ** 6, 1), (0, 0, 0, 0, 0, 0, 0, 0)]


def told_least(letters, weights):
    best = None
    for lengths in itertools.product(range(1, max(2, len(weights))), repeat=len(weights)):
        if sum(Fraction(1, letters ** length) for length in lengths) <= 1:
            total = sum(weight * length for weight, length in zip(weights, lengths))
            best = total if best is None else min(best, total)
    return best


def told_joins(letters, weights, thing):
    """Whether a value is joins, as [9.4] tells it."""
    if type(thing) is not tuple:
        return False
    nodes = dict(enumerate(weights))
    for index, join in enumerate(thing):
        size = 2 if letters == 2 or index == 0 and len(weights) % 2 == 0 else 3
        if type(join) is not tuple or len(join) != size or any(type(node) is not int for node in join):
            return False
        if list(join) != sorted(set(join)) or not set(join) <= set(nodes):
            return False
        taken = [nodes.pop(node) for node in join]
        if nodes and min(nodes.values()) < max(taken):
            return False
        nodes[len(weights) + index] = sum(taken)
    return len(nodes) == 1


def some_weights(many, seed, most=5):
    source = random.Random(seed)
    return [tuple(source.choice((0, 1, 1, 2, 3, 5, 9, source.randrange(10 ** 6))) for _ in range(source.randint(1, most)))
            for _ in range(many)]


class TotalTest(unittest.TestCase):
    def test_totals(self):
        self.assertEqual(total_of(ONE, (1, 2, 3)), 11)
        self.assertEqual(total_of(ONE, (0, 0, 0)), 0)
        self.assertEqual(total_of(Code("ab", ("a", "aa")), (10 ** 6, 1)), 10 ** 6 + 2)

    def test_against_all_lengths(self):
        for weights in WEIGHTS[:7] + some_weights(40, 441):
            for letters in (2, 3):
                self.assertEqual(least_total(letters, weights), told_least(letters, weights))

    def test_codes_and_joins(self):
        for weights in WEIGHTS + some_weights(80, 442, 8):
            for letters in (2, 3):
                joins = joins_for(letters, weights)
                self.assertTrue(told_joins(letters, weights, joins))
                self.assertIs(joins_hold(letters, weights, joins), True)
                code = best_code(letters, weights)
                self.assertEqual(code.letters, "abc"[:letters])
                self.assertEqual(len(code), len(weights))
                self.assertTrue(is_without_beginnings(code))
                self.assertEqual(total_of(code, weights), least_total(letters, weights))

    def test_one_weight(self):
        for letters in (2, 3):
            for weight in (0, 1, 10 ** 6):
                self.assertEqual(least_total(letters, (weight,)), weight)
                self.assertEqual(joins_for(letters, (weight,)), ())
                self.assertEqual(best_code(letters, (weight,)), Code("abc"[:letters], ("a",)))
                self.assertIs(joins_hold(letters, (weight,), ()), True)
                self.assertIs(joins_hold(letters, (weight,), ((0,),)), False)

    def test_told_ones(self):
        self.assertIs(joins_hold(2, (5, 1, 1, 3), ((1, 2), (3, 4), (0, 5))), True)
        self.assertIs(joins_hold(2, (5, 1, 1, 3), ((1, 2), (3, 4))), False)
        self.assertIs(joins_hold(2, (5, 1, 1, 3), ((1, 2), (3, 4), (0, 5), (6,))), False)
        self.assertIs(joins_hold(2, (5, 1, 1, 3), ((2, 1), (3, 4), (0, 5))), False)
        self.assertIs(joins_hold(2, (5, 1, 1, 3), ((1, 2), (0, 4), (3, 5))), False)
        self.assertIs(joins_hold(3, (1, 1, 1, 1), ((0, 3), (1, 2, 4))), True)
        self.assertIs(joins_hold(3, (1, 1, 1, 1), ((0, 1, 2), (3, 4))), False)
        self.assertIs(joins_hold(3, (1, 1, 1), ((0, 1, 2),)), True)
        self.assertIs(joins_hold(3, (1, 1, 1), ((0, 1), (2, 3))), False)

    def test_equal_weights_in_any_order(self):
        for weights in ((1, 1, 1), (2, 1, 1, 2), (0, 0, 0, 0), (1, 1, 1, 1)):
            for letters in (2, 3):
                held = 0
                for joins in all_joins(letters, len(weights)):
                    told = told_joins(letters, weights, joins)
                    self.assertIs(joins_hold(letters, weights, joins), told)
                    held += told
                self.assertGreater(held, 0)

    def test_any_value(self):
        for weights in WEIGHTS:
            for letters in (2, 3):
                for thing in ANY:
                    self.assertIs(joins_hold(letters, weights, thing), told_joins(letters, weights, thing))
                    self.assertIs(joins_hold(letters, weights, (thing,)), told_joins(letters, weights, (thing,)))

    def test_one_thing_otherwise(self):
        right = 0
        for number, weights in enumerate(WEIGHTS + some_weights(60, 443, 8)):
            for letters in (2, 3):
                joins = joins_for(letters, weights)
                for thing in changed(joins, number, 60):
                    self.assertIs(joins_hold(letters, weights, thing), told_joins(letters, weights, thing))
                    right += joins_hold(letters, weights, thing) and thing != joins
        self.assertGreater(right, 5)


def all_joins(letters, many):
    """All ways of joining so many nodes, whatever they weigh."""
    def going_on(left, made, size):
        if len(left) < 2:
            return [made]
        told = []
        for join in itertools.combinations(left, min(size, len(left))):
            rest = [node for node in left if node not in join] + [many + len(made)]
            told += going_on(rest, made + (join,), letters)
        return told
    return going_on(list(range(many)), (), 2 if letters == 2 or many % 2 == 0 else 3)
