"""Shares, words that can be put in, and codes for lengths, against all words of few letters."""

import itertools
import unittest
from fractions import Fraction

from serialhouse.codes import Code
from serialhouse.errors import HasBeginnings, TooMuch, TwoWays
from serialhouse.lengthcodes import code_of, further_word, is_complete, share_of
from serialhouse.rests import code_holds, is_one_way, is_without_beginnings
from tests.helper import BARE, LATE, NEAR, ONE, SINGLE, TWO, some_codes, words_to


def pair(number):
    return number.numerator, number.denominator


def told_share(letters, lengths):
    return sum((Fraction(1, len(letters) ** length) for length in lengths), Fraction(0))


def is_apart(word, words):
    return not any(word.startswith(other) or other.startswith(word) for other in words)


class ShareTest(unittest.TestCase):
    def test_shares(self):
        for code in some_codes(200, 431, 8, 6):
            self.assertEqual(share_of(code), pair(told_share(code.letters, map(len, code.words))))
        self.assertEqual(share_of(BARE), (0, 1))
        self.assertEqual(share_of(ONE), (1, 1))
        self.assertEqual(share_of(Code("a", ("a", "aa", "aaa"))), (3, 1))

    def test_complete(self):
        told = []
        for code in some_codes(300, 432, 4, 2) + [ONE, LATE, TWO, Code("a", ("aaa",)), Code("abc", ("a", "b", "c"))]:
            if is_one_way(code):
                share = told_share(code.letters, map(len, code.words))
                told.append(share == 1)
                self.assertIs(is_complete(code), share == 1)
                if len(code.words) < 4:
                    can = any(is_one_way(Code(code.letters, code.words + (word,)))
                              for word in words_to(code.letters, 5)[1:] if word not in code.words)
                    self.assertIs(can, share < 1)
                continue
            with self.assertRaises(TwoWays) as caught:
                is_complete(code)
            self.assertEqual(caught.exception.paper[0], "two")
            self.assertTrue(code_holds(code, caught.exception.paper))
        self.assertGreater(min(told.count(True), told.count(False)), 20)
        # Two ways are told whatever the share is.
        for code in (Code("ab", ("a", "aa")), Code("a", ("a", "aa")), Code("ab", ("a", "ab", "b")), TWO):
            self.assertRaises(TwoWays, is_complete, code)


class FurtherTest(unittest.TestCase):
    def test_first_further_word(self):
        ends = []
        for code in some_codes(300, 433, 5, 3) + [BARE, SINGLE, Code("bc", ()), Code("ab", ("a", "bb")), NEAR, TWO]:
            pairs = [(one, other) for one, word in enumerate(code.words) for other, longer in enumerate(code.words)
                     if one != other and longer.startswith(word)]
            if pairs:
                with self.assertRaises(HasBeginnings) as caught:
                    further_word(code)
                self.assertEqual((caught.exception.one, caught.exception.other), min(pairs))
                continue
            told = [word for word in words_to(code.letters, 4)[1:] if is_apart(word, code.words)]
            self.assertEqual(further_word(code), told[0] if told else None)
            self.assertIs(further_word(code) is None, share_of(code) == (1, 1))
            ends.append(bool(told))
        self.assertGreater(min(ends.count(True), ends.count(False)), 10)
        self.assertEqual(further_word(BARE), "a")
        self.assertEqual(further_word(Code("bc", ())), "b")

    def test_until_complete(self):
        code = Code("abc", ("abacab",))
        words = []
        while further_word(code) is not None and len(words) < 40:
            words.append(further_word(code))
            code = Code("abc", code.words + (words[-1],))
        self.assertEqual(words[:2], ["b", "c"])
        self.assertEqual(len(words), 12)
        self.assertIs(is_complete(code), True)


class MadeTest(unittest.TestCase):
    def told_words(self, letters, lengths):
        words = [None] * len(lengths)
        for length, place in sorted((length, place) for place, length in enumerate(lengths)):
            words[place] = next("".join(signs) for signs in itertools.product(letters, repeat=length)
                                if not any("".join(signs).startswith(word) for word in words if word is not None))
        return tuple(words)

    def test_all_lengths(self):
        for letters in ("a", "z", "ab", "bd", "abc", "xyz"):
            for many in range(5 if len(letters) < 3 else 4):
                for lengths in itertools.product((1, 2, 3, 5), repeat=many):
                    share = told_share(letters, lengths)
                    if share > 1:
                        with self.assertRaises(TooMuch) as caught:
                            code_of(letters, lengths)
                        self.assertEqual(caught.exception.share, pair(share))
                        continue
                    code = code_of(letters, lengths)
                    self.assertEqual(code, Code(letters, self.told_words(letters, lengths)))
                    self.assertTrue(is_without_beginnings(code))

    def test_edges(self):
        self.assertEqual(code_of("ab", ()), Code("ab", ()))
        self.assertEqual(code_of("a", (6,)), Code("a", ("aaaaaa",)))
        self.assertEqual(code_of("ab", (3,) * 8).words, tuple(words_to("ab", 3)[7:]))
        self.assertEqual(code_of("ab", (6, 1, 5, 2, 4, 3, 6)).words[5], "bba")
        with self.assertRaises(TooMuch) as caught:
            code_of("abc", (1, 1, 1, 6))
        self.assertEqual(caught.exception.share, (730, 729))
