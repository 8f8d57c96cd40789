"""Tables: which values are tables, and how words are led by them."""

import random
import unittest

from serialhouse.comparing import is_same
from serialhouse.errors import NotIn
from serialhouse.formats import Format
from serialhouse.intoleads import judge_into
from serialhouse.leads import judge_lead
from serialhouse.leadtables import about, image_of, is_table, is_whole_table, led, led_back, together
from serialhouse.words import common_beginning
from tests.helper import (
    AA, ALL, ANY, DEAD, EMPTY, EVENS, LEFT, NOAA, NONE, ONES, RIGHT, SOME, changed, some_formats, words_of, words_to)

PARTS = ((0, 0, (("a", "b", 1), ("b", "a", 1))), (1, 1, (("a", "a", 0), ("b", "b", 0))))


def useful_letters(form, state):
    return [move[1] for move in form.moves if move[0] == state and state in form.useful and move[2] in form.useful]


def is_int(thing):
    return type(thing) is int


def is_letter(thing):
    return type(thing) is str and len(thing) == 1 and "a" <= thing <= "z"


def told_table(one, other, thing):
    """Whether a value is a table into, as the document tells it."""
    if type(thing) is not tuple:
        return False
    for row in thing:
        if type(row) is not tuple or len(row) != 3 or not is_int(row[0]) or not is_int(row[1]):
            return False
        if row[0] not in one.useful or not 0 <= row[1] < other.size or type(row[2]) is not tuple:
            return False
        for step in row[2]:
            if type(step) is not tuple or len(step) != 3 or not is_letter(step[0]) or not is_letter(step[1]):
                return False
            if not is_int(step[2]) or not 0 <= step[2] < len(thing):
                return False
    for state, goal, steps in thing:
        if list(steps) != sorted(steps) or [step[0] for step in steps] != sorted(useful_letters(one, state)):
            return False
        if len({step[1] for step in steps}) < len(steps):
            return False
        for letter, behind, number in steps:
            if (state, letter, thing[number][0]) not in one.moves or (goal, behind, thing[number][1]) not in other.moves:
                return False
        if state in one.ends and goal not in other.ends:
            return False
    return thing[0][:2] == (0, 0) and 0 in one.useful if thing else 0 not in one.useful


def told_whole(one, other, thing):
    """Whether a value is a whole table, as the document tells it."""
    if not told_table(one, other, thing) or 0 in other.useful and 0 not in one.useful:
        return False
    return all(
        goal in other.useful and (goal not in other.ends or state in one.ends)
        and set(useful_letters(other, goal)) <= {step[1] for step in steps} for state, goal, steps in thing)


def tables(seed, many=60):
    """Formats with tables into the second one."""
    source = random.Random(seed)
    made = [(EVENS, EVENS, PARTS), (SOME, EVENS, ((0, 0, (("a", "a", 1),)), (1, 1, (("a", "a", 0), ("b", "b", 0))))),
            (NONE, NOAA, ()), (EMPTY, NOAA, ((0, 0, ()),))]
    forms = some_formats(60, seed + 1, 3) + [NOAA, EVENS, SOME, ALL, ONES, DEAD, LEFT, RIGHT]
    while len(made) < many:
        one, other = source.choice(forms), source.choice(forms)
        paper = judge_into(one, other)
        if paper[0] == "into" and one.useful:
            made.append((one, other, paper[1]))
    return made


class TableTest(unittest.TestCase):
    def test_example(self):
        self.assertIs(is_whole_table(EVENS, EVENS, PARTS), True)
        self.assertEqual(led(EVENS, EVENS, PARTS, "abba"), "bbaa")

    def test_any_value(self):
        for one, other in ((EVENS, EVENS), (NOAA, ONES), (NONE, NONE), (NONE, NOAA), (EMPTY, EMPTY), (NOAA, NONE)):
            for thing in ANY:
                self.assertIs(is_table(one, other, thing), told_table(one, other, thing))
                self.assertIs(is_whole_table(one, other, thing), told_whole(one, other, thing))
        self.assertIs(is_table(NONE, NOAA, ()), True)
        self.assertIs(is_whole_table(NONE, NOAA, ()), False)
        self.assertIs(is_whole_table(NONE, NONE, ()), True)

    def test_one_thing_otherwise(self):
        right = 0
        for number, (one, other, table) in enumerate(tables(311)):
            self.assertTrue(told_table(one, other, table))
            for thing in changed(table, number, 150) + [table]:
                self.assertIs(is_table(one, other, thing), told_table(one, other, thing))
                self.assertIs(is_whole_table(one, other, thing), told_whole(one, other, thing))
                right += is_table(one, other, thing) and thing != table
        self.assertGreater(right, 5)

    def test_whole_ones_otherwise(self):
        for number, form in enumerate(some_formats(30, 312) + [EVENS, NOAA, ALL]):
            table = judge_lead(form, form)[1]
            self.assertTrue(told_whole(form, form, table))
            for thing in changed(table, number, 150):
                self.assertIs(is_whole_table(form, form, thing), told_whole(form, form, thing))

    def test_rules_one_by_one(self):
        self.assertIs(is_table(ALL, ALL, ((0, 0, (("a", "a", 0), ("b", "b", 0))),)), True)
        for steps in ((("a", "a", 0), ("b", "a", 0)), (("a", "b", 0), ("b", "b", 0)), (("b", "b", 0), ("a", "a", 0)),
                      (("a", "a", 0),), (("a", "a", 0), ("b", "b", 0), ("c", "c", 0)), (("a", "a", 0), ("a", "b", 0)),
                      (("a", "a", 0), ("b", "c", 0)), (("a", "a", False), ("b", "b", 0)), (("a", "a", 0), ("b", "b", 1)),
                      (("a", "a", 0), ("b", "b", -1))):
            self.assertIs(is_table(ALL, ALL, ((0, 0, steps),)), False)
        self.assertIs(is_table(EMPTY, EMPTY, ((0, 0, ()),)), True)
        for row in ((False, 0, ()), (0, False, ()), (0, 1, ()), (1, 0, ()), (0, 0, []), [0, 0, ()], (0, 0, (), ())):
            self.assertIs(is_table(EMPTY, EMPTY, (row,)), False)
        # Where the first word ends, the second one has to.
        self.assertIs(is_table(EMPTY, AA, ((0, 0, ()),)), False)
        self.assertIs(is_table(AA, ONES, ((0, 0, (("a", "a", 1),)), (1, 0, (("a", "a", 2),)), (2, 0, ()))), True)
        self.assertIs(is_table(ONES, AA, ((0, 0, (("a", "a", 0),)),)), False)
        # A whole table leaves nothing over: no end, no letter.
        self.assertIs(is_whole_table(AA, ONES, ((0, 0, (("a", "a", 1),)), (1, 0, (("a", "a", 2),)), (2, 0, ()))), False)
        self.assertIs(is_whole_table(EMPTY, ONES, ((0, 0, ()),)), False)
        self.assertIs(is_whole_table(ONES, ALL, ((0, 0, (("a", "a", 0),)),)), False)

    def test_rows_alike_and_rows_that_nothing_comes_to(self):
        twice = ((0, 0, (("a", "a", 2), ("b", "b", 1))), (0, 0, (("a", "b", 2), ("b", "a", 0))),
                 (0, 0, (("a", "a", 2), ("b", "b", 2))), (0, 0, (("a", "a", 0), ("b", "b", 0))))
        self.assertIs(is_whole_table(ALL, ALL, twice), True)
        self.assertIs(is_whole_table(ALL, ALL, twice + ((0, 0, (("a", "a", 0),)),)), False)
        self.assertEqual(led(ALL, ALL, twice, "bbbab"), "babbb")
        # A row of a state that is not useful is none, a second state that is not useful is let.
        self.assertIs(is_table(AA_DEAD, ALL, ((0, 0, (("a", "a", 1),)), (1, 0, ()), (2, 0, ()))), False)
        self.assertIs(is_table(AA_DEAD, ALL, ((0, 0, (("a", "a", 1),)), (1, 0, ()))), True)
        unused = ((0, 0, (("a", "a", 1),)), (1, 1, ()), (0, 2, (("a", "b", 3),)), (1, 3, ()))
        second = Format(4, ((0, "a", 1), (2, "b", 3)), (1, 3))
        self.assertIs(is_table(AA_DEAD, second, unused), True)
        self.assertIs(is_whole_table(AA_DEAD, second, unused), False)
        self.assertIs(is_whole_table(AA_DEAD, second, unused[:2]), True)


AA_DEAD = Format(3, ((0, "a", 1), (0, "b", 2)), (1,))


class LeadingTest(unittest.TestCase):
    def test_words(self):
        for one, other, table in tables(313):
            words = words_of(one, "ab", 5)
            images = [led(one, other, table, word) for word in words]
            for word, image in zip(words, images):
                self.assertTrue(other.has(image))
                self.assertEqual(len(word), len(image))
                self.assertEqual(led_back(one, other, table, image), word)
                for further, behind in zip(words[:20], images):
                    if word != further:
                        self.assertEqual(
                            len(common_beginning(word, further)), len(common_beginning(image, behind)))
            form = image_of(one, other, table)
            self.assertEqual(words_of(form, "ab", 5), sorted(images, key=lambda word: (len(word), word)))

    def test_what_is_no_word(self):
        for one, other, table in tables(314, 25):
            images = [led(one, other, table, word) for word in words_of(one, "ab", 4)]
            for thing in words_to("abc", 4) + list(ANY):
                if not one.has(thing):
                    with self.assertRaises(NotIn) as caught:
                        led(one, other, table, thing)
                    self.assertEqual(caught.exception.word, thing)
                if thing not in images and not (isinstance(thing, str) and len(thing) > 4):
                    with self.assertRaises(NotIn) as caught:
                        led_back(one, other, table, thing)
                    self.assertEqual(caught.exception.word, thing)
        self.assertRaises(NotIn, led_back, AA_DEAD, ALL, ((0, 0, (("a", "b", 1),)), (1, 0, ())), "")
        self.assertRaises(NotIn, led_back, AA_DEAD, ALL, ((0, 0, (("a", "b", 1),)), (1, 0, ())), "a")
        self.assertEqual(led_back(AA_DEAD, ALL, ((0, 0, (("a", "b", 1),)), (1, 0, ())), "b"), "a")
        self.assertRaises(NotIn, led_back, NONE, ALL, (), "")

    def test_long_words(self):
        word = "ab" * 60
        self.assertEqual(led_back(EVENS, EVENS, PARTS, led(EVENS, EVENS, PARTS, word)), word)

    def test_together(self):
        done = 0
        all_tables = tables(315, 80)
        for one, other, table in all_tables:
            for second, third, further in all_tables:
                if not other == second:
                    continue
                done += 1
                joined = together(one, other, third, table, further)
                self.assertTrue(told_table(one, third, joined))
                if told_whole(one, other, table) and told_whole(second, third, further):
                    self.assertTrue(told_whole(one, third, joined))
                for word in words_of(one, "ab", 5):
                    self.assertEqual(led(one, third, joined, word),
                                     led(second, third, further, led(one, other, table, word)))
        self.assertGreater(done, 80)
        self.assertEqual(together(NONE, NONE, NOAA, (), ()), ())
        self.assertEqual(together(NONE, NOAA, NOAA, (), judge_lead(NOAA, NOAA)[1]), ())

    def test_about(self):
        done = 0
        for one, other, table in tables(316, 150):
            if not told_whole(one, other, table):
                continue
            done += 1
            turned = about(one, other, table)
            self.assertTrue(told_whole(other, one, turned))
            self.assertEqual([row[:2] for row in turned], [row[:2][::-1] for row in table])
            self.assertEqual(about(other, one, turned), table)
            for word in words_of(one, "ab", 5):
                self.assertEqual(led(other, one, turned, led(one, other, table, word)), word)
            self.assertTrue(is_same(image_of(one, other, table), other))
        self.assertGreater(done, 10)
        self.assertEqual(about(NONE, NONE, ()), ())
        self.assertEqual(image_of(NONE, ALL, ()), NONE)
        self.assertEqual(about(ALL, ALL, ((0, 0, (("a", "b", 0), ("b", "a", 1))), (0, 0, (("a", "a", 0), ("b", "b", 1))))),
                         ((0, 0, (("a", "b", 1), ("b", "a", 0))), (0, 0, (("a", "a", 0), ("b", "b", 1)))))
