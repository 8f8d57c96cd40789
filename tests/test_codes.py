"""Codes: their parts, messages and readings, against messages gone through."""

import unittest

from serialhouse.codes import Code, code_readings, form_of, is_message, message_count, read, written
from serialhouse.errors import BadCode, NoMessage
from serialhouse.formats import Format
from serialhouse.rests import is_one_way
from serialhouse.rows import counts
from serialhouse.tosses import rows_to
from tests.helper import (
    ANY, BARE, CODES, EMPTY, LATE, NEAR, ONE, SINGLE, TWO, is_least, messages_to, some_codes, text_of, words_of,
    words_to)


def told_letters(thing):
    return type(thing) is str and 1 <= len(thing) <= 3 and all("a" <= sign <= "z" for sign in thing) and list(
        thing) == sorted(set(thing))


def told_words(letters, thing):
    return type(thing) is tuple and all(
        type(word) is str and word and set(word) <= set(letters) for word in thing) and len(set(thing)) == len(thing)


class PartsTest(unittest.TestCase):
    def part_of(self, letters, words):
        try:
            Code(letters, words)
        except BadCode as error:
            return error.part
        return None

    def told_part(self, letters, words):
        if not told_letters(letters):
            return "letters"
        return None if told_words(letters, words) else "words"

    def test_any_values(self):
        letters = ANY + ("abc", "acz", "abcd", "aab", "cba", "aB", "a b", "z", "xyz", "ab\n", "a1")
        words = ANY + (("a", "b"), ("a", "a"), ("a", ""), ("a", "c"), ("ab", "ba", "b"), ["a"], ("a", 1), ("a", None),
                       ("a", ("b",)), "ab", ("a", ["b"]), (("a",), ("a",)), ("A",))
        for one in letters:
            for other in words:
                self.assertEqual(self.part_of(one, other), self.told_part(one, other))

    def test_attributes(self):
        code = Code("bcd", ("b", "cc", "cd"))
        self.assertEqual((code.letters, code.words, len(code)), ("bcd", ("b", "cc", "cd"), 3))
        self.assertEqual(len(BARE), 0)

    def test_equal(self):
        self.assertTrue(ONE == Code("ab", ("a", "ab", "bb")))
        self.assertTrue(ONE != Code("abc", ("a", "ab", "bb")))
        for other in ANY + (TWO, Code("ab", ("ab", "a", "bb")), ("ab", ("a", "ab", "bb")), EMPTY, None):
            if other is not ONE:
                self.assertIs(ONE == other, False)


class MessageTest(unittest.TestCase):
    def test_any_value(self):
        for code in CODES:
            for thing in ANY + ((0, 1, 2), (2, 2), (3,), (-1,), (True,), (0, False), [0], (0, "1"), (0,) * 60, ((0,),)):
                told = type(thing) is tuple and all(type(part) is int and 0 <= part < len(code.words) for part in thing)
                self.assertIs(is_message(code, thing), told)

    def test_written(self):
        self.assertEqual(written(ONE, (0, 2, 1)), "abbab")
        self.assertEqual(written(BARE, ()), "")
        self.assertEqual(written(NEAR, (1,) * 60), "aab" * 60)

    def test_readings(self):
        for code in some_codes(60, 411):
            by_text = {}
            for message in messages_to(code, 6):
                by_text.setdefault(text_of(code, message), []).append(message)
            for word in words_to("abc", 4) + list(by_text):
                told = by_text.get(word, [])
                self.assertEqual(code_readings(code, word), len(told))
                if told:
                    self.assertEqual(read(code, word), min(told))
                else:
                    with self.assertRaises(NoMessage) as caught:
                        read(code, word)
                    self.assertEqual(caught.exception.place, self.place(code, word))

    def place(self, code, word):
        texts = [text_of(code, message) for message in messages_to(code, len(word) + 3)]
        return max(many for many in range(len(word) + 1) if any(text.startswith(word[:many]) for text in texts))

    def test_other_letters(self):
        self.assertEqual(code_readings(ONE, "axb"), 0)
        for word, place in (("axb", 1), ("x", 0), ("abbx", 3)):
            with self.assertRaises(NoMessage) as caught:
                read(ONE, word)
            self.assertEqual(caught.exception.place, place)

    def test_long_words(self):
        self.assertEqual(code_readings(Code("a", ("a", "aa")), "a" * 120), 8670007398507948658051921)
        self.assertEqual(read(Code("a", ("aa", "a")), "a" * 119), (0,) * 59 + (1,))
        self.assertEqual(read(Code("a", ("aaa", "aa")), "a" * 119), (0,) * 39 + (1,))
        self.assertEqual(read(LATE, "aa" + "b" * 118), (0, 0) + (2,) * 59)
        self.assertEqual(read(LATE, "aa" + "b" * 117), (1,) + (2,) * 58)
        with self.assertRaises(NoMessage) as caught:
            read(SINGLE, "a" * 119)
        self.assertEqual(caught.exception.place, 119)


class FormTest(unittest.TestCase):
    def test_words(self):
        for code in some_codes(60, 412):
            form = form_of(code)
            self.assertTrue(is_least(form))
            texts = {text_of(code, message) for message in messages_to(code, 6)}
            self.assertEqual(words_of(form, code.letters, 6), sorted(texts, key=lambda word: (len(word), word)))
        self.assertEqual(form_of(BARE), EMPTY)
        self.assertEqual(form_of(SINGLE), Format(2, ((0, "a", 1), (1, "a", 0)), (0,)))

    def test_counts(self):
        for code in some_codes(60, 413):
            told = [0] * 8
            for message in messages_to(code, 7):
                told[len(text_of(code, message))] += 1
            self.assertEqual([message_count(code, length) for length in range(8)], told)
            most = 2 * form_of(code).size + sum(map(len, code.words)) + 1
            same = counts(form_of(code), most) == tuple(message_count(code, length) for length in range(most))
            self.assertIs(same, is_one_way(code))
        self.assertEqual(message_count(BARE, 0), 1)
        self.assertEqual(message_count(BARE, 200), 0)
        self.assertEqual(message_count(Code("ab", ("a", "b")), 200), 2 ** 200)

    def test_leaves_of_tosses(self):
        words = tuple(row.replace("0", "a").replace("1", "b") for index in range(3) for row in rows_to(3, index, 30))
        code = Code("ab", words)
        form = form_of(code)
        self.assertTrue(all(form.has(word) for word in words))
        self.assertEqual(read(code, words[5] + words[0]), (5, 0))
