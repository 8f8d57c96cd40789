"""Formats from others, against the words gone through one by one."""

import itertools
import unittest

from serialhouse.errors import BadLetters
from serialhouse.formats import Format
from serialhouse.joining import again, backward, behind, both, either, renamed, without
from serialhouse.leastforms import least_form
from tests.helper import (
    AA, ANY, DEAD, EMPTY, EVEN, FORMS, NOAA, NONE, ONES, OTHERS, is_least, letters_in, some_formats, words_of)

MOST = 6
PAIRS = list(itertools.product(FORMS, FORMS)) + list(zip(some_formats(60, 11), some_formats(60, 12))) + list(
    zip(some_formats(20, 13, letters="abc", size=3), some_formats(20, 14, size=3)))


class PairTest(unittest.TestCase):
    def check(self, join, tell, most=MOST):
        for one, other in PAIRS:
            letters = letters_in(one, other)
            long = most if len(letters) < 3 else 4
            made = join(one, other)
            mine, yours = words_of(one, letters, long), words_of(other, letters, long)
            self.assertEqual(set(words_of(made, letters, long)), tell(mine, yours, long), (str(one), str(other)))
            self.assertTrue(is_least(made))
            self.assertTrue(set(made.letters) <= set(letters))
            self.assertEqual(join(one=one, other=other), made)

    def test_both(self):
        self.check(both, lambda mine, yours, most: set(mine) & set(yours))

    def test_either(self):
        self.check(either, lambda mine, yours, most: set(mine) | set(yours))

    def test_without(self):
        self.check(without, lambda mine, yours, most: set(mine) - set(yours))

    def test_behind(self):
        self.check(behind, lambda mine, yours, most: {
            one + other for one in mine for other in yours if len(one + other) <= most})

    def test_examples(self):
        self.assertEqual(both(NOAA, Format(3, ((0, "a", 1), (1, "b", 2)), (2,))),
                         Format(3, ((0, "a", 1), (1, "b", 2)), (2,)))
        self.assertEqual(either(NOAA, AA).has("aa"), True)
        self.assertEqual(without(ONES, AA).has("aa"), False)
        self.assertEqual(without(AA, AA), NONE)
        self.assertEqual(behind(AA, AA).led("aaaa"), 4)

    def test_neutral_ones(self):
        for form in FORMS:
            made = least_form(form)
            for right in (either(form, NONE), either(NONE, form), without(form, NONE), behind(form, EMPTY),
                          behind(EMPTY, form), both(form, form), either(form, form)):
                self.assertEqual(right, made)
            for right in (both(form, NONE), both(NONE, form), without(NONE, form), behind(form, NONE),
                          behind(NONE, form), without(form, form)):
                self.assertEqual(right, NONE)

    def test_returned_ones(self):
        threes = Format(3, tuple((state, "a", (state + 1) % 3) for state in range(3)), (0,))
        fives = Format(5, tuple((state, "a", (state + 1) % 5) for state in range(5)), (0,))
        made = either(either(threes, fives), EVEN)
        self.assertEqual(made.size, 30)
        self.assertEqual(both(made, both(threes, fives)), both(fives, threes))
        self.assertEqual(both(both(threes, fives), EVEN).ends, (0,))


class OneTest(unittest.TestCase):
    def test_again(self):
        for form in list(FORMS) + some_formats(80, 15):
            letters = letters_in(form)
            words = set(words_of(form, letters, 5 if len(letters) < 3 else 4))
            most = 5 if len(letters) < 3 else 4
            right = {""}
            while True:
                more = right | {one + other for one in right for other in words if len(one + other) <= most}
                if more == right:
                    break
                right = more
            made = again(form)
            self.assertEqual(set(words_of(made, letters, most)), right, str(form))
            self.assertTrue(is_least(made))
            self.assertEqual(again(form=form), made)
            self.assertEqual(again(made) if made.size <= 6 else made, made)
        self.assertEqual(again(NONE), EMPTY)
        self.assertEqual(again(EMPTY), EMPTY)

    def test_backward(self):
        for form in list(FORMS) + some_formats(80, 16):
            letters = letters_in(form)
            most = 6 if len(letters) < 3 else 4
            made = backward(form)
            self.assertEqual(set(words_of(made, letters, most)),
                             {word[::-1] for word in words_of(form, letters, most)}, str(form))
            self.assertTrue(is_least(made))
            self.assertEqual(backward(form=form), made)
            if made.size <= 6:
                self.assertEqual(backward(made), least_form(form))
        self.assertEqual(backward(NONE), NONE)
        self.assertEqual(backward(EMPTY), EMPTY)


class RenamedTest(unittest.TestCase):
    def check(self, form, pairs):
        letters = {letter: letter for letter in letters_in(form)}
        letters.update({ahead: after for ahead, after in pairs if ahead in letters})
        made = renamed(form, pairs)
        right = ["".join(letters[letter] for letter in word) for word in words_of(form, letters_in(form), 5)]
        self.assertEqual(set(words_of(made, "".join(letters.values()), 5)), set(right))
        self.assertTrue(is_least(made))
        self.assertEqual(renamed(pairs=pairs, form=form), made)
        return made

    def test_exchanged(self):
        made = self.check(NOAA, (("a", "b"), ("b", "a")))
        self.assertEqual(made, Format(2, ((0, "a", 0), (0, "b", 1), (1, "a", 0)), (0, 1)))
        for form in some_formats(40, 17):
            self.check(form, (("b", "a"), ("a", "b")))

    def test_other_letters(self):
        self.check(NOAA, ())
        self.check(NOAA, (("a", "z"),))
        self.check(NOAA, (("b", "c"), ("a", "b")))
        self.check(NOAA, (("a", "a"), ("b", "b")))
        self.check(OTHERS, (("z", "x"), ("x", "y"), ("y", "z")))
        self.assertEqual(renamed(NONE, (("a", "b"),)), NONE)

    def test_letters_that_the_format_does_not_have(self):
        self.assertEqual(self.check(ONES, (("b", "c"), ("z", "a"))), ONES)
        self.assertEqual(self.check(ONES, (("b", "a"),)), ONES)
        self.check(NOAA, (("z", "a"), ("a", "c")))
        self.check(NOAA, (("z", "a"),))

    def test_numbered_anew(self):
        form = Format(3, ((0, "a", 1), (0, "b", 2), (1, "a", 1), (2, "a", 1)), (1,))
        self.assertEqual(renamed(form, (("a", "b"), ("b", "a"))),
                         Format(3, ((0, "a", 1), (0, "b", 2), (1, "b", 2), (2, "b", 2)), (2,)))

    def test_bad_pairs(self):
        for pairs in (None, [], "", "ab", 0, ("ab",), (["a", "b"],), ("a", "b"), (("a",),), (("a", "b", "c"),),
                      (("a", "B"),), (("", "b"),), (("ab", "c"),), (("a", 1),), ((1, "a"),), ((None, "a"),),
                      (("a", "b"), ("a", "c")), (("a", "c"), ("b", "c")), (("x", "c"), ("y", "c")),
                      (("a", "b"), ("a", "b")), {("a", "b"): 1}, (("a", ["b"]),), (("a", ("b",)),), [("a", "b")],
                      (("a", "b"),), (("b", "a"),), (("a", "b"), ("b", "b")), (("a", "\n"),)):
            with self.assertRaises(BadLetters) as caught:
                renamed(NOAA, pairs)
            self.assertIs(caught.exception.pairs, pairs)

    def test_letters_of_moves_that_are_not_useful(self):
        self.assertEqual(DEAD.letters, "ab")
        with self.assertRaises(BadLetters) as caught:
            renamed(DEAD, (("a", "b"),))
        self.assertEqual(caught.exception.pairs, (("a", "b"),))
        self.assertEqual(renamed(DEAD, (("a", "b"), ("b", "a"))).letters, "b")

    def test_any_pairs(self):
        for thing in ANY:
            for pairs in (thing, (thing,), ((thing, "c"),), (("c", thing),), (thing, ("a", "c"))):
                try:
                    made = renamed(NOAA, pairs)
                except BadLetters as error:
                    self.assertIs(error.pairs, pairs)
                else:
                    self.assertIsInstance(made, Format)
                    self.assertTrue(all(len(pair) == 2 for pair in pairs))
