"""Readers, against all messages that begin with what was taken."""

import random
import unittest

from serialhouse.codes import Code
from serialhouse.errors import NoMessage, NothingToUndo, TwoWays
from serialhouse.readers import Reader
from serialhouse.rests import code_holds, is_one_way, look
from tests.helper import BARE, LATE, NEAR, ONE, SINGLE, TWO, messages_to, some_codes, text_of, words_to


def told_sure(code, text, messages):
    """The longest tuple of numbers of taken words with which all messages begin that go on from a text."""
    going_on = [message for message, written in messages.items() if written.startswith(text)]
    if not going_on:
        return None
    sure = going_on[0]
    for message in going_on:
        many = 0
        while many < min(len(sure), len(message)) and sure[many] == message[many]:
            many += 1
        sure = sure[:many]
    while len(text_of(code, sure)) > len(text):
        sure = sure[:-1]
    return sure


def codes(seed):
    return [code for code in some_codes(60, seed, 3, 3) + [ONE, LATE, NEAR, SINGLE, BARE, Code("ab", ("ab",))]
            if is_one_way(code)]


class ReaderTest(unittest.TestCase):
    def test_letter_by_letter(self):
        for code in codes(451):
            messages = {message: text_of(code, message) for message in messages_to(code, 9)}
            for text in words_to(code.letters, 6 if len(code.letters) < 3 else 4):
                self.follow(code, text, messages)

    def follow(self, code, text, messages):
        reader = Reader(code)
        for at, letter in enumerate(text):
            before = (reader.sure, reader.left)
            told = told_sure(code, text[:at + 1], messages)
            if told is None:
                place = max(many for many in range(at + 2)
                            if told_sure(code, text[:many], messages) is not None)
                for word in (letter, text[at:], letter + "a", letter + "zzz"):
                    with self.assertRaises(NoMessage) as caught:
                        reader.take(word)
                    self.assertEqual(caught.exception.place, place)
                    self.assertEqual((reader.sure, reader.left), before)
                return
            self.assertEqual(reader.take(letter), told[len(before[0]):])
            self.assertEqual(reader.sure, told)
            self.assertEqual(reader.left, text[len(text_of(code, told)):at + 1])
            self.check_close(code, reader, text[:at + 1], messages)

    def check_close(self, code, reader, text, messages):
        before = (reader.sure, reader.left)
        whole = [message for message, written in messages.items() if written == text]
        if whole:
            self.assertEqual(reader.sure + reader.close(), whole[0])
        else:
            with self.assertRaises(NoMessage) as caught:
                reader.close()
            self.assertEqual(caught.exception.place, len(text))
        self.assertEqual((reader.sure, reader.left), before)

    def test_pieces_of_any_length(self):
        source = random.Random(452)
        for code in codes(453):
            if not code.words:
                continue
            message = tuple(source.randrange(len(code.words)) for _ in range(20))
            text = text_of(code, message)[:120]
            one, other = Reader(code), Reader(code)
            told = ()
            for letter in text:
                told += one.take(letter)
            place = 0
            further = ()
            while place < len(text):
                many = source.randint(0, 7)
                further += other.take(text[place:place + many])
                place += many
            self.assertEqual(told, further)
            self.assertEqual((one.sure, one.left), (other.sure, other.left))
            self.assertEqual(one.sure, told)
            whole = Reader(code)
            self.assertEqual(whole.take(text), told)
            if text == text_of(code, message):
                self.assertEqual(told + one.close(), message)

    def test_sure_by_the_look(self):
        for code in codes(454):
            most = look(code)
            if most is None or not code.words:
                continue
            for message in messages_to(code, 9):
                reader = Reader(code)
                reader.take(text_of(code, message))
                behind = [text_of(code, message[at:]) for at in range(1, len(message) + 1)]
                surely = [text for text in behind if len(text) >= most]
                self.assertGreaterEqual(len(reader.sure), len(surely))

    def test_nothing_changes_by_what_is_no_message(self):
        reader = Reader(NEAR)
        self.assertEqual(reader.take("aa"), ())
        for word, place in (("bb", 3), ("abb", 4), ("aabx", 5), ("x", 2), ("abab", 5)):
            with self.assertRaises(NoMessage) as caught:
                reader.take(word)
            self.assertEqual(caught.exception.place, place)
            self.assertEqual((reader.sure, reader.left), ((), "aa"))
        self.assertEqual(reader.take(""), ())
        self.assertEqual(reader.take("ab"), (0, 1))

    def test_no_words(self):
        reader = Reader(BARE)
        self.assertEqual((reader.take(""), reader.close(), reader.sure, reader.left), ((), (), (), ""))
        with self.assertRaises(NoMessage) as caught:
            reader.take("ab")
        self.assertEqual(caught.exception.place, 0)

    def test_close(self):
        reader = Reader(ONE)
        self.assertEqual(reader.close(), ())
        self.assertEqual(reader.take("abb"), ())
        self.assertEqual(reader.close(), (0, 2))
        self.assertEqual(reader.take("b"), ())
        self.assertEqual(reader.close(), (1, 2))
        self.assertEqual((reader.sure, reader.left), ((), "abbb"))
        reader = Reader(Code("ab", ("ab",)))
        reader.take("aba")
        with self.assertRaises(NoMessage) as caught:
            reader.close()
        self.assertEqual(caught.exception.place, 3)
        reader.undo()
        self.assertEqual((reader.sure, reader.left, reader.close()), ((0,), "", ()))

    def test_undo(self):
        source = random.Random(455)
        for code in codes(456):
            if not code.words:
                continue
            text = text_of(code, tuple(source.randrange(len(code.words)) for _ in range(12)))
            states = []
            reader = Reader(code)
            for letter in text:
                states.append((reader.sure, reader.left))
                reader.take(letter)
            for state in states[::-1]:
                reader.undo()
                self.assertEqual((reader.sure, reader.left), state)
            self.assertRaises(NothingToUndo, reader.undo)
            reader.take("")
            self.assertRaises(NothingToUndo, reader.undo)
            reader.take(text)
            self.assertRaises(NoMessage, reader.take, "~")
            reader.undo()
            reader.take(text[-1])
            again = Reader(code)
            again.take(text)
            self.assertEqual((reader.sure, reader.left), (again.sure, again.left))

    def test_two_ways(self):
        for code in (TWO, Code("a", ("a", "aa"))):
            with self.assertRaises(TwoWays) as caught:
                Reader(code)
            self.assertEqual(caught.exception.paper[0], "two")
            self.assertTrue(code_holds(code, caught.exception.paper))

    def test_two_readers_share_nothing(self):
        one, other = Reader(NEAR), Reader(NEAR)
        one.take("aaab")
        self.assertEqual((other.sure, other.left, other.close()), ((), "", ()))
        self.assertRaises(NothingToUndo, other.undo)
        other.take("aa")
        self.assertEqual((one.sure, one.left), ((0, 1), ""))
        self.assertTrue(one.code == NEAR)

    def test_long_texts(self):
        reader = Reader(LATE)
        self.assertEqual(reader.take("aa" + "b" * 117), ())
        self.assertEqual(reader.close(), (1,) + (2,) * 58)
        self.assertEqual(reader.take("b"), ())
        self.assertEqual(reader.close(), (0, 0) + (2,) * 59)
