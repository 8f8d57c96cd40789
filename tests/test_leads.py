"""Leads: classes, papers, how many there are, by number, and by other letters."""

import itertools
import math
import random
import unittest

from serialhouse.errors import NotIn, UnlikeRows
from serialhouse.formats import Format
from serialhouse.joining import either, renamed
from serialhouse.leads import (
    by_number, class_marks, is_led, judge_lead, lead_holds, many_leads, parting_depth, renamings)
from serialhouse.leadtables import led
from serialhouse.numbering import number_of
from serialhouse.rows import counts
from tests.helper import (
    AA, ALL, ANY, DEAD, EMPTY, EVEN, EVENS, FORMS, LEFT, NOAA, NONE, ONES, RIGHT, SOME, changed, some_formats,
    words_of)
from tests.test_leadtables import is_int, told_whole

PAIRS = [(LEFT, RIGHT), (EVENS, SOME), (NONE, NONE), (NONE, EMPTY), (EMPTY, NONE), (EMPTY, EMPTY), (ALL, EVENS), (NOAA, DEAD)]


def pairs(seed, many=80):
    """Pairs of formats, many of them with leads."""
    source = random.Random(seed)
    forms = some_formats(40, seed, 3) + list(FORMS) + [LEFT, RIGHT, ALL, EVENS, SOME]
    made = list(PAIRS)
    for _ in range(many):
        one = source.choice(forms)
        made.append((one, source.choice(forms)))
        made.append((one, twisted(one, source)))
    return made


def twisted(form, source):
    """A format with a lead to it: other letters at each state, states in another order, one more that nothing meets."""
    order = [0] + source.sample(range(1, form.size), form.size - 1)
    moves = []
    for state in range(form.size):
        mine = [move for move in form.moves if move[0] == state]
        letters = source.sample("abc" if len(mine) < 3 else [move[1] for move in mine], len(mine))
        moves += [(order[state], letter, order[goal]) for letter, (_, _, goal) in zip(letters, mine)]
    return Format(form.size + 1, tuple(sorted(moves)), tuple(sorted(order[end] for end in form.ends)))


def useful_goals(form, state):
    return [move[2] for move in form.moves if move[0] == state and state in form.useful and move[2] in form.useful]


def beginnings(form, depth):
    """The beginnings of at most so many letters, each with its state."""
    told = {"": 0} if 0 in form.useful else {}
    for word in list(told):
        told = grown(form, told, depth)
    return told


def grown(form, told, depth):
    layer = dict(told)
    for _ in range(depth):
        layer = {word + letter: goal for word, state in layer.items() for source, letter, goal in form.moves
                 if source == state and goal in form.useful}
        told = {**told, **layer}
    return told


def ways_told(one, other, depth, mine="", yours=""):
    """How many leads to a depth there are, gone through one by one."""
    return tree_ways(one, other, 0, 0, depth) if one.useful and other.useful else int(one.useful == other.useful)


def tree_ways(one, other, state, goal, depth):
    if (state in one.ends) != (goal in other.ends):
        return 0
    if depth == 0:
        return 1
    mine, yours = useful_goals(one, state), useful_goals(other, goal)
    if len(mine) != len(yours):
        return 0
    return sum(math.prod(tree_ways(one, other, ahead, behind, depth - 1) for ahead, behind in zip(mine, chosen))
               for chosen in itertools.permutations(yours))


def told_parted(one, other, thing):
    """Whether a value is a tuple of rounds that part, as the document tells it."""
    if type(thing) is not tuple or not thing:
        return False
    for marks in thing:
        if type(marks) is not tuple or len(marks) != 2:
            return False
        for form, half in zip((one, other), marks):
            if type(half) is not tuple or len(half) != form.size:
                return False
            for state, mark in enumerate(half):
                if (not is_int(mark) or mark < 0) if state in form.useful else mark is not None:
                    return False
    both = [(form, side, state) for side, form in enumerate((one, other)) for state in form.useful]
    for index, marks in enumerate(thing):
        for form, side, state in both:
            for further, place, goal in both:
                alike = (state in form.ends) == (goal in further.ends)
                if index and alike:
                    mine = [thing[index - 1][side][each] for each in useful_goals(form, state)]
                    yours = [thing[index - 1][place][each] for each in useful_goals(further, goal)]
                    alike = sorted(mine) == sorted(yours)
                if alike and marks[side][state] != marks[place][goal]:
                    return False
    return thing[-1][0][0] != thing[-1][1][0]


def told_paper(one, other, thing):
    if type(thing) is not tuple or len(thing) != 2 or type(thing[0]) is not str:
        return False
    if thing[0] == "lead":
        return told_whole(one, other, thing[1])
    return thing[0] == "parted" and told_parted(one, other, thing[1])


class JudgeTest(unittest.TestCase):
    def test_papers(self):
        kinds = []
        for one, other in pairs(321):
            paper = judge_lead(one, other)
            self.assertTrue(told_paper(one, other, paper))
            self.assertIs(lead_holds(one, other, paper), True)
            self.assertIs(is_led(one, other), paper[0] == "lead")
            most = len(one.useful) + len(other.useful) + 1
            ways = [tree_ways_fast(one, other, depth) for depth in range(most)]
            self.assertIs(is_led(one, other), all(ways))
            depth = parting_depth(one, other)
            self.assertEqual(depth, None if all(ways) else ways.index(False))
            if depth is not None:
                self.assertEqual(len(paper[1]), depth + 1)
            kinds.append(paper[0])
        self.assertGreater(min(kinds.count("lead"), kinds.count("parted")), 60)

    def test_one_thing_otherwise(self):
        right = 0
        for number, (one, other) in enumerate(pairs(322, 25)):
            paper = judge_lead(one, other)
            for thing in changed(paper, number, 100):
                self.assertIs(lead_holds(one, other, thing), told_paper(one, other, thing))
                right += lead_holds(one, other, thing) and thing != paper
        self.assertGreater(right, 10)

    def test_any_value(self):
        for one, other in PAIRS + [(NOAA, NOAA), (ONES, EVEN)]:
            for thing in ANY:
                self.assertIs(lead_holds(one, other, thing), told_paper(one, other, thing))
                for kind in ("lead", "parted", "into"):
                    self.assertIs(lead_holds(one, other, (kind, thing)), told_paper(one, other, (kind, thing)))

    def test_more_rounds_and_other_marks(self):
        for one, other in pairs(323, 30):
            paper = judge_lead(one, other)
            if paper[0] != "parted":
                continue
            rounds = paper[1]
            # As the last round that parts is a function of the one ahead, further ones can be told, too.
            finest = class_marks(one, other)
            self.assertIs(lead_holds(one, other, ("parted", rounds + (finest,) * 3)),
                          told_parted(one, other, rounds + (finest,) * 3))
            other_marks = tuple(tuple(tuple(None if mark is None else 10 ** 59 - 7 * mark for mark in half)
                                      for half in marks) for marks in rounds)
            self.assertIs(lead_holds(one, other, ("parted", other_marks)), True)
            wrong = tuple(tuple(tuple(None if mark is None else bool(mark) for mark in half) for half in marks)
                          for marks in rounds)
            self.assertIs(lead_holds(one, other, ("parted", wrong)), None in (rounds[0][0][0], rounds[0][1][0]) and
                          not one.useful + other.useful)
            self.assertIs(lead_holds(one, other, ("parted", rounds[1:])), told_parted(one, other, rounds[1:]))

    def test_never_both(self):
        for one, other in pairs(324, 40):
            marks = class_marks(one, other)
            for many in range(1, 6):
                self.assertFalse(is_led(one, other) and lead_holds(one, other, ("parted", (marks,) * many)))

    def test_formats_without_words(self):
        for form in (NONE, Format(2, ((0, "a", 1), (1, "b", 0)), ())):
            self.assertEqual(judge_lead(NONE, form), ("lead", ()))
            self.assertIsNone(parting_depth(form, NONE))
            for other in (EMPTY, NOAA, AA):
                self.assertEqual(judge_lead(form, other)[0], "parted")
                self.assertEqual(len(judge_lead(other, form)[1]), 1)
                self.assertEqual((parting_depth(form, other), parting_depth(other, form)), (0, 0))
                self.assertEqual(many_leads(form, other, 0, 5), 0)
            self.assertEqual(many_leads(form, NONE, 7, 5), 1)
            self.assertEqual(many_leads(form, NONE, 7, 1), 0)


def tree_ways_fast(one, other, depth):
    """Whether there are leads to a depth, by pairs of states."""
    if not one.useful or not other.useful:
        return bool(one.useful) == bool(other.useful)
    good = {(state, goal): (state in one.ends) == (goal in other.ends) for state in one.useful for goal in other.useful}
    for _ in range(depth):
        good = {(state, goal): good_on(one, other, state, goal, good) for state, goal in good}
    return good[(0, 0)]


def good_on(one, other, state, goal, good):
    if (state in one.ends) != (goal in other.ends):
        return False
    mine, yours = useful_goals(one, state), useful_goals(other, goal)
    return len(mine) == len(yours) and any(
        all(good[pair] for pair in zip(mine, chosen)) for chosen in itertools.permutations(yours))


class ClassTest(unittest.TestCase):
    def test_numbers_come_up_in_order(self):
        for one, other in pairs(325):
            marks = class_marks(one, other)
            self.assertEqual([len(half) for half in marks], [one.size, other.size])
            met = []
            for form, half in zip((one, other), marks):
                self.assertEqual([state for state, mark in enumerate(half) if mark is not None], list(form.useful))
                for mark in half:
                    if mark is not None and mark not in met:
                        self.assertEqual(mark, len(met))
                        met.append(mark)
            self.assertEqual(marks, self.coarsest(one, other))
            self.assertIs(is_led(one, other), marks[0][0] == marks[1][0])

    def coarsest(self, one, other):
        """Classes by leads between all pairs of states."""
        states = [(form, state) for form in (one, other) for state in form.useful]
        most = len(states) + 1
        firsts = []
        told = ([None] * one.size, [None] * other.size)
        for place, (form, state) in enumerate(states):
            side = 0 if place < len(one.useful) else 1
            for number, (further, goal) in enumerate(firsts):
                if alike(form, state, further, goal, most):
                    told[side][state] = number
                    break
            else:
                told[side][state] = len(firsts)
                firsts.append((form, state))
        return tuple(told[0]), tuple(told[1])


def alike(one, state, other, goal, most):
    good = {(first, second): (first in one.ends) == (second in other.ends)
            for first in one.useful for second in other.useful}
    for _ in range(most):
        good = {pair: good_on(one, other, *pair, good) for pair in good}
    return good[(state, goal)]


class ManyTest(unittest.TestCase):
    def test_against_leads_gone_through(self):
        for one, other in pairs(326, 30):
            for depth in range(4):
                many = ways_told(one, other, depth)
                self.assertEqual(many_leads(one, other, depth, 10 ** 6), many % 10 ** 6)
                self.assertEqual(many_leads(one, other, depth, 1), 0)
                self.assertEqual(many_leads(one, other, depth, 6), many % 6)

    def test_far_depths(self):
        # Of all words of two letters, two ways for each of 2 ** depth - 1 beginnings.
        for depth in (0, 1, 5, 60, 200):
            for modulus in (1, 2, 7, 1000, 999983, 10 ** 6):
                told = pow(2, 2 ** depth - 1, modulus)
                self.assertEqual(many_leads(ALL, EVENS, min(depth, 0), modulus), 1 % modulus)
                self.assertEqual(many_leads(ALL, ALL, depth, modulus), told)
                self.assertEqual(many_leads(EVENS, EVENS, depth, modulus), told)
                self.assertEqual(many_leads(ALL, EVENS, depth, modulus), told if depth == 0 else 0)
        self.assertEqual(many_leads(ONES, ONES, 200, 10 ** 6), 1)
        self.assertEqual(many_leads(AA, AA, 200, 10 ** 6), 1)
        self.assertEqual(many_leads(LEFT, RIGHT, 0, 9), 1)
        self.assertEqual(many_leads(LEFT, LEFT, 200, 9), 2)

    def test_depths_where_states_are_not_parted_yet(self):
        form = Format(7, ((0, "a", 1), (0, "b", 4), (1, "a", 2), (2, "a", 3), (4, "a", 5), (5, "a", 6), (6, "a", 3)), (3,))
        self.assertEqual([many_leads(form, form, depth, 100) for depth in range(6)], [1, 2, 2, 1, 1, 1])
        for depth in range(6):
            self.assertEqual(many_leads(form, form, depth, 100), ways_told(form, form, depth))


class ByNumberTest(unittest.TestCase):
    def test_words_with_the_same_number(self):
        done = 0
        for one, other in pairs(327):
            if counts(one, 20) != counts(other, 20):
                continue
            for word in words_of(one, one.letters, 4):
                done += 1
                found = by_number(one, other, word)
                self.assertTrue(other.has(found))
                self.assertEqual(len(found), len(word))
                self.assertEqual(number_of(other, found), number_of(one, word))
        self.assertGreater(done, 300)
        self.assertEqual(by_number(LEFT, RIGHT, "ab"), "ba")

    def test_which_error_comes_first(self):
        for one, other in pairs(328, 30):
            mine, yours = counts(one, 20), counts(other, 20)
            for thing in ANY + ("abab", "zz", "a" * 40):
                if mine != yours:
                    with self.assertRaises(UnlikeRows) as caught:
                        by_number(one, other, thing)
                    self.assertEqual(
                        caught.exception.length, [one != two for one, two in zip(mine, yours)].index(True))
                elif not one.has(thing):
                    with self.assertRaises(NotIn) as caught:
                        by_number(one, other, thing)
                    self.assertEqual(caught.exception.word, thing)

    def test_long_words(self):
        other = renamed(NOAA, (("a", "d"), ("b", "c")))
        word = "abbab" * 8
        self.assertEqual(len(by_number(NOAA, other, word)), 40)
        self.assertEqual(by_number(other, NOAA, by_number(NOAA, other, word)), word)
        self.assertEqual(by_number(ONES, ONES, "a" * 300), "a" * 300)


def told_renamings(one, other):
    """All renamings, each way of exchanging letters looked at by words of as many letters as part formats."""
    most = one.size + other.size
    letters = sorted({letter for word in words_of(one, one.letters, most) for letter in word})
    words = words_of(other, other.letters, most)
    told = []
    for behind in itertools.permutations(other.letters, len(letters)):
        table = dict(zip(letters, behind))
        mine = ["".join(table[letter] for letter in word) for word in words_of(one, one.letters, most)]
        if sorted(mine) == sorted(words):
            told.append(tuple(zip(letters, behind)))
    return tuple(sorted(told))


class RenamingTest(unittest.TestCase):
    def test_all_of_them(self):
        source = random.Random(329)
        many = 0
        forms = some_formats(25, 330, 3) + [form for form in FORMS if form.size < 4] + [LEFT, ALL, EVENS, SOME]
        for one in forms:
            order = source.sample("abc", 3)
            for other in (one, source.choice(forms), renamed(one, tuple(zip("abc", order)))):
                told = told_renamings(one, other)
                self.assertEqual(renamings(one, other), told)
                many += len(told) > 1
        self.assertGreater(many, 3)

    def test_few_words(self):
        dead = Format(2, ((0, "a", 1), (1, "b", 0)), ())
        self.assertEqual(renamings(NONE, dead), ((),))
        self.assertEqual(renamings(dead, NONE), ((),))
        self.assertEqual(renamings(EMPTY, Format(2, ((0, "a", 1),), (0,))), ((),))
        self.assertEqual(renamings(NONE, EMPTY), ())
        self.assertEqual(renamings(EMPTY, NONE), ())
        self.assertEqual(renamings(EMPTY, ONES), ())
        self.assertEqual(renamings(ONES, EMPTY), ())

    def test_letters_that_stand_in_no_word(self):
        one = Format(3, ((0, "a", 1), (0, "c", 2)), (1,))
        other = Format(2, ((0, "b", 1), (1, "z", 1)), (0, 1))
        self.assertEqual(renamings(one, Format(2, ((0, "y", 1),), (1,))), ((("a", "y"),),))
        self.assertEqual(renamings(one, other), ())

    def test_many_letters(self):
        two = Format(2, ((0, "a", 1), (0, "b", 1)), (1,))
        four = either(two, Format(2, ((0, "c", 1), (0, "d", 1)), (1,)))
        six = either(four, Format(2, ((0, "e", 1), (0, "f", 1)), (1,)))
        self.assertEqual(renamings(six, six), tuple(tuple(zip("abcdef", behind))
                                                    for behind in itertools.permutations("abcdef")))
        self.assertEqual(renamings(four, six), ())


class TableOfLeadTest(unittest.TestCase):
    def test_leads_lead_all_words(self):
        for one, other in pairs(331, 40):
            paper = judge_lead(one, other)
            if paper[0] == "lead":
                words = [led(one, other, paper[1], word) for word in words_of(one, one.letters, 4)]
                self.assertEqual(sorted(words), sorted(words_of(other, other.letters, 4)))
