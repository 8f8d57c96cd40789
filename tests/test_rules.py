"""Rules: their terms, the least ones, and rules from others."""

import itertools
import unittest

from serialhouse.formats import Format
from serialhouse.leastrules import FIRST_PRIME, factors_by, least_of_row
from serialhouse.primes import inverse_of, is_prime, next_prime
from serialhouse.rows import count_from, counts
from serialhouse.rules import (
    added, is_rule, least, least_rule, least_rule_from, lessened, met, obeys, part, summed, term, terms, timed)
from tests.helper import (
    ANY, DEAD, EMPTY, EVEN, FORMS, NOAA, NONE, changed, is_least_rule, row_of, some_formats, some_rules)

FIBONACCI = ((1, 2), (1, 1))
RULES = some_rules(60, 61) + [((), ()), ((0,), (0,)), ((5, 1), (1, 0)), ((0, 0, 1), (0, 0, 0)), ((1,), (-1,)), FIBONACCI]
PAIRS = list(zip(RULES, some_rules(66, 62))) + list(itertools.product(RULES[60:], RULES[60:]))


class RuleTest(unittest.TestCase):
    def test_is_rule(self):
        for thing in RULES + [((10 ** 60,), (-10 ** 60,))]:
            self.assertIs(is_rule(thing), True)
        for thing in ((), ((),), ((), (), ()), ((1,), ()), ((), (1,)), ((1,), (1, 2)), ((True,), (1,)), ((1,), (False,)),
                      ([1], [1]), [(1,), (1,)], ((1,), [1]), (("1",), (1,)), ((1,), (None,)), ("", ""), ("a", "b"),
                      ({}, {}), (((1,),), (1,)), None, 0, (1, 1), ((1,), 1)):
            self.assertIs(is_rule(thing), False, thing)

    def test_is_rule_of_any_value(self):
        for thing in ANY:
            for rule in (thing, (thing, thing), ((thing,), (1,)), ((1,), (thing,)), (thing, ()), ((), thing)):
                right = (type(rule) is tuple and len(rule) == 2 and all(type(side) is tuple for side in rule)
                         and len(rule[0]) == len(rule[1]) and all(type(number) is int for side in rule for number in side))
                self.assertIs(is_rule(rule), right)

    def test_terms(self):
        for rule in RULES:
            right = tuple(row_of(rule, 40))
            for many in (0, 1, 2, 3, 5, 40):
                self.assertEqual(terms(rule, many), right[:many])
            for index in (0, 1, 2, 7, 39):
                self.assertEqual(term(rule, index), right[index])
        self.assertEqual(terms(((7, 8, 9), (1, 0, 0)), 2), (7, 8))
        self.assertEqual(terms(((7, 8, 9), (1, 0, 0)), 5), (7, 8, 9, 9, 9))
        self.assertEqual(terms(((), ()), 3), (0, 0, 0))
        self.assertEqual(term(((3,), (2,)), 300), 3 * 2 ** 300)
        self.assertEqual(terms(((1, 0), (2, 3)), 4), (1, 0, 3, 6))

    def test_by_name(self):
        self.assertIs(is_rule(thing=FIBONACCI), True)
        self.assertEqual(terms(rule=FIBONACCI, many=3), (1, 2, 3))
        self.assertEqual(term(rule=FIBONACCI, index=3), 5)
        self.assertEqual(least(rule=FIBONACCI), FIBONACCI)
        self.assertEqual(least_rule(form=NOAA), FIBONACCI)
        self.assertEqual(least_rule_from(form=NOAA, state=1), ((1, 1), (1, 1)))
        self.assertIs(obeys(form=NOAA, thing=FIBONACCI), True)
        for join in (added, lessened, timed, met):
            self.assertEqual(join(one=FIBONACCI, other=((1,), (2,))), join(FIBONACCI, ((1,), (2,))))
            self.assertEqual(join(other=FIBONACCI, one=((1,), (2,))), join(((1,), (2,)), FIBONACCI))
        self.assertEqual(summed(rule=((1,), (1,))), ((1, 2), (2, -1)))
        self.assertEqual(part(rule=FIBONACCI, step=2, rest=0), ((1, 3), (3, -1)))


class LeastTest(unittest.TestCase):
    def check(self, rule, row):
        self.assertTrue(is_rule(rule))
        self.assertEqual(tuple(row_of(rule, len(row))), tuple(row))
        self.assertTrue(is_least_rule(rule), rule)
        for number in rule[0] + rule[1]:
            self.assertIs(type(number), int)

    def test_examples(self):
        self.assertEqual(least(((1, 1, 1), (1, 0, 0))), ((1,), (1,)))
        self.assertEqual(least(((5, 1), (1, 0))), ((5, 1), (1, 0)))
        self.assertEqual(least(((0, 0), (3, 1))), ((), ()))

    def test_of_rules(self):
        for rule in RULES:
            self.check(least(rule), row_of(rule, 30))
            self.assertEqual(least(least(rule)), least(rule))
        self.assertEqual(least(((), ())), ((), ()))
        self.assertEqual(least(((0, 0, 0, 4), (0, 0, 0, 0))), ((0, 0, 0, 4), (0, 0, 0, 0)))
        self.assertEqual(least(((1, 2, 4, 8), (1, 1, 1, 2))), ((1,), (2,)))

    def test_of_great_ones(self):
        rule = ((1, 0, 0, 0, 0, 0, 0, 10 ** 12 - 1), (999999, -999999, 999999, 0, 0, 1, -1, 999999))
        self.check(least(rule), row_of(rule, 40))
        rule = ((10 ** 60,), (10 ** 60 + 7,))
        self.assertEqual(least(rule), rule)
        rule = ((3, 5), (-10 ** 60, 10 ** 60))
        self.assertEqual(least(rule), rule)

    def test_where_the_modulus_divides(self):
        later = next_prime(FIRST_PRIME)
        for first in (FIRST_PRIME, FIRST_PRIME ** 2, FIRST_PRIME * later, FIRST_PRIME ** 3 * later ** 2):
            self.assertEqual(least(((first,), (2,))), ((first,), (2,)))
            self.assertEqual(least(((first, 1), (1, 0))), ((first, 1), (1, 0)))
            self.assertEqual(least(((1, first), (0, first))), ((1, first), (0, first)))
            self.assertEqual(least(((0, first, 0), (first, 0, first + 1))), ((0, first, 0), (first, 0, first + 1)))
        self.assertIsNone(factors_by((FIRST_PRIME, 2 * FIRST_PRIME), FIRST_PRIME ** 2))

    def test_of_formats(self):
        self.assertEqual(least_rule(NOAA), FIBONACCI)
        self.assertEqual(least_rule(NONE), ((), ()))
        self.assertEqual(least_rule(EMPTY), ((1,), (0,)))
        self.assertEqual(least_rule(EVEN), ((1, 0), (0, 1)))
        for form in some_formats(80, 63, size=5) + some_formats(20, 64, letters="abc") + list(FORMS):
            rule = least_rule(form)
            self.check(rule, counts(form, 25))
            self.assertLessEqual(len(rule[1]), form.size)
            self.assertIs(obeys(form, rule), True)

    def test_of_states(self):
        self.assertEqual(least_rule_from(NOAA, 1), ((1, 1), (1, 1)))
        self.assertEqual(least_rule_from(DEAD, 2), ((), ()))
        self.assertEqual(least_rule_from(DEAD, 3), ((1,), (1,)))
        for form in some_formats(40, 65) + list(FORMS):
            for state in range(form.size):
                self.check(least_rule_from(form, state), [count_from(form, state, length) for length in range(20)])
            self.assertEqual(least_rule_from(form, 0), least_rule(form))

    def test_of_many_states(self):
        many = 120
        moves = tuple((state, letter, (state * (1 + at) + 1) % many) for state in range(many)
                      for at, letter in enumerate("abc"))
        form = Format(many, moves, tuple(range(0, many, 7)))
        rule = least_rule(form)
        self.assertEqual(terms(rule, 260), counts(form, 260))
        self.assertIs(obeys(form, rule), True)


class ObeyTest(unittest.TestCase):
    def test_examples(self):
        self.assertIs(obeys(NOAA, ((1, 2, 3), (2, 0, -1))), True)
        self.assertIs(obeys(NOAA, ((1, 2, 3), (2, 0, 1))), False)
        self.assertIs(obeys(NOAA, ((1, 2, 4), (2, 0, -1))), False)
        self.assertIs(obeys(NONE, ((), ())), True)
        self.assertIs(obeys(NOAA, ((), ())), False)
        self.assertIs(obeys(NONE, ((0, 0), (8, -9))), True)
        self.assertIs(obeys(NONE, ((0, 1), (8, -9))), False)

    def test_rules_of_any_size(self):
        for many in (50, 300, 1400):
            firsts = counts(NOAA, many)
            self.assertIs(obeys(NOAA, (firsts, (1, 1) + (0,) * (many - 2))), True)
            self.assertIs(obeys(NOAA, (firsts, (1,) * many)), False)
            self.assertIs(obeys(NOAA, (firsts[:-1] + (firsts[-1] + 1,), (1, 1) + (0,) * (many - 2))), False)
            self.assertIs(obeys(NOAA, (firsts, (1, 1) + (0,) * (many - 3) + (1,))), False)

    def test_a_rule_that_goes_wrong_as_late_as_can_be(self):
        # A ring of five states against a rule of four factors: eight terms are the same.
        form = Format(5, tuple((state, "a", (state + 1) % 5) for state in range(5)), (4,))
        self.assertEqual(counts(form, 10), (0, 0, 0, 0, 1, 0, 0, 0, 0, 1))
        self.assertIs(obeys(form, ((0, 0, 0, 0, 1), (0, 0, 0, 0, 0))), False)
        self.assertIs(obeys(form, ((0, 0, 0, 0, 1), (0, 0, 0, 0, 1))), True)

    def test_any_value(self):
        for form in (NOAA, NONE, EVEN):
            for thing in ANY:
                for rule in (thing, (thing, thing), ((thing,), (1,)), ((1, 2), (1, thing)), ((1, thing), (1, 1))):
                    right = is_rule(rule) and row_of(rule, 120) == list(counts(form, 120))
                    self.assertIs(obeys(form, rule), right)

    def test_changed_rules(self):
        for at, form in enumerate(some_formats(60, 66)):
            rule = least_rule(form)
            for thing in changed(rule, at, 30):
                right = is_rule(thing) and row_of(thing, 40) == list(counts(form, 40))
                self.assertIs(obeys(form, thing), right, thing)


class JoinTest(unittest.TestCase):
    def check(self, rule, row):
        self.assertTrue(is_rule(rule))
        self.assertEqual(row_of(rule, len(row)), list(row))
        self.assertTrue(is_least_rule(rule), rule)

    def check_pairs(self, join, tell):
        for one, other in PAIRS:
            self.check(join(one, other), tell(row_of(one, 24), row_of(other, 24)))

    def test_added(self):
        self.check_pairs(added, lambda mine, yours: [one + other for one, other in zip(mine, yours)])
        self.assertEqual(added(FIBONACCI, ((-1, -2), (1, 1))), ((), ()))

    def test_lessened(self):
        self.check_pairs(lessened, lambda mine, yours: [one - other for one, other in zip(mine, yours)])
        self.assertEqual(lessened(FIBONACCI, FIBONACCI), ((), ()))

    def test_timed(self):
        self.check_pairs(timed, lambda mine, yours: [one * other for one, other in zip(mine, yours)])
        self.assertEqual(timed(FIBONACCI, ((), ())), ((), ()))
        one = ((1, 2, 3, 4, 5), (1, 0, 0, -1, 2))
        other = ((1, 0, 0, 2, -3, 1), (1, 1, 0, 0, -1, 3))
        self.check(timed(one, other), [mine * yours for mine, yours in zip(row_of(one, 80), row_of(other, 80))])

    def test_met(self):
        self.check_pairs(met, lambda mine, yours: [
            sum(mine[at] * yours[index - at] for at in range(index + 1)) for index in range(24)])
        self.assertEqual(met(((1,), (2,)), ((1,), (1,))), ((1, 3), (3, -2)))

    def test_summed(self):
        for rule in RULES:
            self.check(summed(rule), list(itertools.accumulate(row_of(rule, 24))))
        self.assertEqual(summed(((1,), (1,))), ((1, 2), (2, -1)))
        self.assertEqual(summed(((), ())), ((), ()))

    def test_part(self):
        for rule in RULES:
            row = row_of(rule, 220)
            for step in (1, 2, 3, 5, 12):
                for rest in sorted({0, 1, step // 2, step - 1} & set(range(step))):
                    self.check(part(rule, step, rest), row[rest::step][:18])
        self.assertEqual(part(FIBONACCI, 2, 0), ((1, 3), (3, -1)))
        self.assertEqual(part(FIBONACCI, 1, 0), FIBONACCI)
        self.assertEqual(part(((), ()), 3, 2), ((), ()))

    def test_of_great_ones(self):
        one = ((10 ** 12 - 1, -5, 7, 0, 1, 2, 3, -10 ** 12 + 1), (999999,) * 7 + (-999999,))
        other = ((1, 2, 3, 4, 5, 6, 7, 8), (-999999, 1) * 4)
        mine, yours = row_of(one, 40), row_of(other, 40)
        self.check(added(one, other), [a + b for a, b in zip(mine, yours)])
        self.check(lessened(one, other), [a - b for a, b in zip(mine, yours)])
        self.check(met(one, other), [sum(mine[at] * yours[index - at] for at in range(index + 1)) for index in range(40)])
        self.check(part(one, 3, 1), mine[1::3])
        self.check(summed(one), list(itertools.accumulate(mine)))


class PrimeTest(unittest.TestCase):
    def test_primes(self):
        primes = [number for number in range(2, 200) if is_prime(number)]
        self.assertEqual(primes[:10], [2, 3, 5, 7, 11, 13, 17, 19, 23, 29])
        self.assertEqual(len(primes), 46)
        self.assertEqual(next_prime(1), 2)
        self.assertEqual(next_prime(113), 127)
        self.assertTrue(is_prime(FIRST_PRIME))

    def test_inverse(self):
        for modulus in (2, 3, 8, 9, 30, 97):
            for number in range(-modulus, 2 * modulus):
                right = [other for other in range(modulus) if number * other % modulus == 1]
                self.assertEqual(inverse_of(number, modulus), right[0] if right else None)

    def test_least_of_row(self):
        self.assertEqual(least_of_row(()), ((), ()))
        self.assertEqual(least_of_row([1, 2, 3, 5]), FIBONACCI)
