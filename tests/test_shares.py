"""Shares of all words, closed lots and walks, against walks gone through one by one."""

import itertools
import math
import unittest
from fractions import Fraction

from serialhouse.formats import Format
from serialhouse.shares import closed_lots, comes_to, lost_share, round_of, share_at, turns
from tests.helper import AA, ALL, EMPTY, ENDA, EVEN, FORMS, NOAA, NONE, ONES, letters_in, reach, some_formats, words_of

# Two closed lots of rounds 2 and 3, and a letter by which one is lost.
PARTED = Format(6, (
    (0, "a", 1), (0, "b", 3), (1, "a", 2), (1, "b", 2), (2, "a", 1), (2, "b", 1), (3, "a", 4), (3, "b", 4), (4, "a", 5),
    (4, "b", 5), (5, "a", 3), (5, "b", 3)), (2, 4))
# A closed lot to which state 0 does not lead.
APART = Format(3, ((0, "a", 0), (1, "a", 2), (1, "b", 2), (2, "a", 1), (2, "b", 1)), (0, 1))
WAITING = Format(3, ((0, "a", 0), (0, "b", 1), (0, "c", 2), (1, "a", 1), (1, "b", 1), (1, "c", 1)), (1,))


def full(form, letters, seed):
    """A format with moves by all letters from most of its states, so that there are closed lots."""
    taken = {move[:2] for move in form.moves}
    more = [(state, letter, (state * 2 + ord(letter) + seed) % form.size) for state in range(form.size)
            for letter in letters if (state, letter) not in taken and (state + seed) % 5]
    return Format(form.size, tuple(sorted(form.moves + tuple(more))), form.ends)


def samples():
    """Pairs of formats and letters."""
    told = [(form, letters_in(form) or "a") for form in FORMS if len(letters_in(form)) <= 3]
    told += [(NOAA, "abc"), (NONE, "a"), (EMPTY, "xyz"), (EVEN, "ab"), (ENDA, "ab"), (ENDA, "abz"), (PARTED, "ab"),
             (PARTED, "abc"), (APART, "ab"), (WAITING, "abc"), (ALL, "ab"), (AA, "ac")]
    for seed, (size, letters) in enumerate(itertools.product((3, 5, 6), ("a", "ab", "abc"))):
        told += [(full(form, letters, seed), letters) for form in some_formats(14, 60 + seed, size=size, letters=letters)]
    return told


SAMPLES = samples()


def lots_by_sets(form, letters):
    """All closed lots, found among all sets of states."""
    met = sorted(reach(form, 0))
    told = []
    for size in range(1, len(met) + 1):
        for states in itertools.combinations(met, size):
            moves = [move for move in form.moves if move[0] in states]
            if len(moves) == len(letters) * size and all(goal in states for _, _, goal in moves):
                if all(set(states) == reach(form, state) for state in states):
                    told.append(states)
    return sorted(told)


def round_by_paths(form, states):
    """The greatest common divisor of the lengths of paths from a state back to it."""
    now, divisor = {states[0]}, 0
    for length in range(1, 60):
        now = {goal for state, _, goal in form.moves if state in now}
        if states[0] in now:
            divisor = math.gcd(divisor, length)
    return divisor


def begun_at(form, state):
    """The format with a state and state 0 exchanged, and where each state is then."""
    place = {0: state, state: 0}
    moves = sorted((place.get(one, one), letter, place.get(goal, goal)) for one, letter, goal in form.moves)
    return Format(form.size, tuple(moves), tuple(sorted(place.get(end, end) for end in form.ends))), place


class ShareTest(unittest.TestCase):
    def test_examples(self):
        self.assertEqual(share_at(NOAA, "ab", 3), (5, 8))

    def test_against_words(self):
        for form, letters in SAMPLES[::3]:
            for length in range(5):
                many = len([word for word in words_of(form, letters, length) if len(word) == length])
                right = Fraction(many, len(letters) ** length)
                self.assertEqual(share_at(form, letters, length), (right.numerator, right.denominator))

    def test_long_words(self):
        self.assertEqual(share_at(form=ENDA, letters="ab", length=400), (1, 2))
        self.assertEqual(share_at(ENDA, "abc", 400), (2 ** 399, 3 ** 400))
        self.assertEqual(share_at(NONE, "abc", 400), (0, 1))
        self.assertEqual(share_at(ONES, "a", 400), (1, 1))
        self.assertEqual(share_at(EMPTY, "xyz", 0), (1, 1))


class LotTest(unittest.TestCase):
    def test_examples(self):
        self.assertEqual(closed_lots(ENDA, "ab"), (((0, 1), 1),))
        self.assertEqual(closed_lots(EVEN, "a"), (((0, 1), 2),))
        self.assertEqual(closed_lots(EVEN, "ab"), ())
        self.assertEqual(closed_lots(NOAA, "ab"), ())
        self.assertEqual(lost_share(EVEN, "ab"), (1, 1))

    def test_named(self):
        self.assertEqual(closed_lots(PARTED, "ab"), (((1, 2), 2), ((3, 4, 5), 3)))
        self.assertEqual(round_of(PARTED, "ab"), 6)
        self.assertEqual(turns(PARTED, "ab", (3, 4, 5)), (0, 1, 2))
        self.assertEqual(closed_lots(PARTED, "abc"), ())
        self.assertEqual(closed_lots(APART, "ab"), ())
        self.assertEqual((round_of(APART, "ab"), lost_share(APART, "ab")), (1, (1, 1)))
        self.assertEqual(comes_to(WAITING, "abc", (1,)), (1, 2))
        self.assertEqual(lost_share(WAITING, "abc"), (1, 2))
        self.assertEqual(closed_lots(ONES, "a"), (((0,), 1),))

    def test_against_sets(self):
        rounds = set()
        for form, letters in SAMPLES:
            lots = closed_lots(form, letters)
            self.assertEqual([states for states, _ in lots], lots_by_sets(form, letters))
            for states, around in lots:
                self.assertEqual(around, round_by_paths(form, states))
                rounds.add((len(lots), around))
            self.assertEqual(round_of(form=form, letters=letters), math.lcm(1, *[around for _, around in lots]))
        self.assertGreater(len(rounds), 3)

    def test_turns(self):
        for form, letters in SAMPLES:
            for states, around in closed_lots(form, letters):
                told = dict(zip(states, turns(form, letters, states)))
                self.assertEqual(told[states[0]], 0)
                self.assertTrue(all(0 <= turn < around for turn in told.values()))
                for state, _, goal in form.moves:
                    if state in states:
                        self.assertEqual((told[state] + 1) % around, told[goal])
                self.assertEqual(turns(form=form, letters=letters, states=states), tuple(told[state] for state in states))


class ComesTest(unittest.TestCase):
    def test_equations(self):
        for form, letters in SAMPLES[::2]:
            for states, _ in closed_lots(form, letters):
                shares = {}
                for state in range(form.size):
                    if state in states:
                        shares[state] = Fraction(1)
                    elif not set(states) <= reach(form, state):
                        shares[state] = Fraction(0)
                    else:
                        other, place = begun_at(form, state)
                        lot = tuple(sorted(place.get(each, each) for each in states))
                        shares[state] = Fraction(*comes_to(other, letters, lot))
                for state in range(form.size):
                    if state not in states:
                        mean = sum(shares[goal] for one, _, goal in form.moves if one == state) / len(letters)
                        self.assertEqual(shares[state], mean)
                self.assertEqual(Fraction(*comes_to(form, letters, states)), shares[0])

    def test_lost(self):
        for form, letters in SAMPLES:
            told = sum((Fraction(*comes_to(form, letters, states)) for states, _ in closed_lots(form, letters)), Fraction(0))
            self.assertEqual(Fraction(*lost_share(form, letters)), 1 - told)
            self.assertEqual(lost_share(form=form, letters=letters), lost_share(form, letters))

    def test_walks(self):
        for form, letters in SAMPLES:
            lots = [set(states) for states, _ in closed_lots(form, letters)]
            now, lost = {0: Fraction(1)}, Fraction(0)
            for _ in range(60):
                onward = {}
                for state, share in now.items():
                    goals = [goal for one, _, goal in form.moves if one == state]
                    lost += share * (len(letters) - len(goals)) / len(letters)
                    for goal in goals:
                        onward[goal] = onward.get(goal, 0) + share / len(letters)
                now = onward
            told = Fraction(*lost_share(form, letters))
            inside = [sum(share for state, share in now.items() if state in lot) for lot in lots]
            rest = 1 - lost - sum(inside)
            self.assertTrue(lost <= told <= lost + rest)
            for lot, share in zip(lots, inside):
                self.assertTrue(share <= Fraction(*comes_to(form, letters, tuple(sorted(lot)))) <= share + rest)

    def test_by_name(self):
        self.assertEqual(comes_to(form=PARTED, letters="ab", states=(1, 2)), (1, 2))
