"""Formats: their parts, where words lead, texts and equality."""

import unittest

from serialhouse.errors import BadFormat, BadText
from serialhouse.formats import Format
from serialhouse.sheets import Sheet
from tests.helper import ANY, DEAD, FORMS, NOAA, NONE, TWICE, some_formats, words_to
from tests.test_sheets import BAD_ENDS, BAD_MOVES, BAD_SIZES


class FormatTest(unittest.TestCase):
    def part_of(self, *parts):
        with self.assertRaises(BadFormat) as caught:
            Format(*parts)
        return caught.exception.part

    def test_attributes(self):
        moves = ((0, "c", 1), (0, "d", 1), (2, "a", 2))
        form = Format(ends=(1, 3), size=4, moves=moves)
        self.assertEqual((form.size, form.moves, form.ends, form.letters), (4, moves, (1, 3), "acd"))
        self.assertEqual(form.useful, (0, 1))
        self.assertEqual(form.sheet, Sheet(4, moves, (1, 3)))
        for name in ("size", "moves", "ends", "letters", "useful", "sheet"):
            self.assertIn(name, vars(form))

    def test_any_size(self):
        form = Format(10 ** 59, ((0, "a", 10 ** 59 - 1),), (10 ** 59 - 1,))
        self.assertEqual(form.useful, (0, 10 ** 59 - 1))
        self.assertEqual(Format.read(str(form)), form)
        many = 20000
        moves = tuple((state, "a", state + 1) for state in range(many - 1))
        form = Format(many, moves, (many - 1,))
        self.assertEqual(form.useful, tuple(range(many)))
        self.assertEqual(Format.read(str(form)), form)

    def test_bad_parts(self):
        for size in BAD_SIZES:
            for moves in ((), None):
                self.assertEqual(self.part_of(size, moves, None), "size")
        for moves in BAD_MOVES + (((0, "a", 0), (0, "a", 1)), ((0, "a", 0), (1, "b", 0), (1, "b", 1))):
            for ends in ((), None):
                self.assertEqual(self.part_of(2, moves, ends), "moves", moves)
        for ends in BAD_ENDS:
            self.assertEqual(self.part_of(2, ((0, "a", 0), (1, "a", 1)), ends), "ends", ends)

    def test_any_parts(self):
        for thing in ANY:
            for parts in ((thing, (), ()), (1, thing, ()), (1, (), thing), (thing, thing, thing)):
                try:
                    form = Format(*parts)
                except BadFormat as error:
                    self.assertIn(error.part, ("size", "moves", "ends"))
                else:
                    self.assertEqual((form.size, form.moves, form.ends), parts)

    def test_step(self):
        self.assertEqual(NOAA.step(0, "a"), 1)
        self.assertIsNone(NOAA.step(1, "a"))
        self.assertIsNone(NOAA.step(state=0, letter="z"))
        for form in some_formats(30, 3):
            for state in range(form.size):
                for letter in "abz":
                    goals = [move[2] for move in form.moves if move[:2] == (state, letter)]
                    self.assertEqual(form.step(state, letter), goals[0] if goals else None)

    def test_led(self):
        self.assertEqual(NOAA.led(""), 0)
        self.assertEqual(NOAA.led("ba"), 1)
        self.assertIsNone(NOAA.led("aa"))
        self.assertEqual(NOAA.led("", 1), 1)
        self.assertEqual(NOAA.led("b", 1), 0)
        self.assertIsNone(NOAA.led(word="a", state=1))
        self.assertEqual(NOAA.led(word="ab"), 0)
        self.assertIsNone(NOAA.led("zb"))
        for form in some_formats(20, 4):
            for state in range(form.size):
                for word in words_to("ab", 3):
                    at = state
                    for letter in word:
                        at = None if at is None else form.step(at, letter)
                    self.assertEqual(form.led(word, state), at)

    def test_has(self):
        for word in words_to("ab", 6):
            self.assertIs(NOAA.has(word), "aa" not in word)
        for form in FORMS:
            for thing in ANY:
                right = isinstance(thing, str) and thing.isalpha() | (thing == "") and form.led(thing) in form.ends
                self.assertIs(form.has(thing), right)
        self.assertIs(NOAA.has(thing="b"), True)
        self.assertIs(NONE.has(""), False)
        for thing in (("a", "b"), ["b"], ("b",), 0, None):
            self.assertIs(NOAA.has(thing), False)

    def test_useful(self):
        self.assertEqual(NOAA.useful, (0, 1))
        self.assertEqual(NONE.useful, ())
        self.assertEqual(DEAD.useful, (0, 1))
        self.assertEqual(Format(3, ((0, "a", 1), (2, "a", 2)), (2,)).useful, ())
        for form in some_formats(60, 5):
            right = []
            for state in range(form.size):
                is_met = any(form.led(word) == state for word in words_to("ab", form.size))
                is_live = any(form.led(word, state) in form.ends for word in words_to("ab", form.size))
                if is_met and is_live:
                    right.append(state)
            self.assertEqual(form.useful, tuple(right))

    def test_equality(self):
        moves = NOAA.moves
        self.assertTrue(NOAA == Format(2, moves, (0, 1)))
        self.assertFalse(NOAA != Format(2, moves, (0, 1)))
        for other in (Format(3, moves, (0, 1)), Format(2, moves, (0,)), Format(2, moves[1:], (0, 1))):
            self.assertFalse(NOAA == other)
            self.assertTrue(NOAA != other)
        for thing in ANY + ((2, moves, (0, 1)), str(NOAA), NOAA.sheet):
            self.assertIs(DEAD == thing, False)
            self.assertIs(thing == DEAD, False)


class TextTest(unittest.TestCase):
    def place_of(self, text):
        with self.assertRaises(BadText) as caught:
            Format.read(text)
        return caught.exception.place

    def test_there_and_back(self):
        self.assertEqual(str(NOAA), "format 2\nmove 0 a 1\nmove 0 b 0\nmove 1 b 0\nends 0 1")
        self.assertEqual(str(NONE), "format 1\nends")
        for form in some_formats(100, 6) + list(FORMS):
            self.assertEqual(Format.read(str(form)), form)
            self.assertEqual(Format.read(text=str(form)), form)
            self.assertIs(type(Format.read(str(form))), Format)

    def test_no_string(self):
        for thing in ANY + (b"format 1\nends", NOAA):
            self.assertEqual(self.place_of(thing), 0 if isinstance(thing, str) else -1)

    def test_wrong_lines(self):
        self.assertEqual(self.place_of(str(TWICE)), 0)
        self.assertEqual(self.place_of(""), 0)
        self.assertEqual(self.place_of("format 0\nends"), 0)
        self.assertEqual(self.place_of("format 1 \nends"), 0)
        self.assertEqual(self.place_of("format 1\n\nends"), 1)
        self.assertEqual(self.place_of("format 2\nmove 0 a 2\nends"), 1)
        self.assertEqual(self.place_of("format 2\nmove 0 b 0\nmove 0 a 0\nends"), 2)
        self.assertEqual(self.place_of("format 2\nmove 0 a 0\nmove 0 a 1\nends"), 2)
        self.assertEqual(self.place_of("format 2\nmove 0 a 0\nends 1 0"), 2)
        self.assertEqual(self.place_of("format 2\nmove 0 a 0\nends 0 2"), 2)
        self.assertEqual(self.place_of("format 2\nmove 0 a 0\nends 0\n"), 3)
        self.assertEqual(self.place_of("format 2"), 1)
        self.assertEqual(self.place_of("format 2\nmove 0 a 0\nmove 1 a 0"), 3)

    def test_what_a_sheet_may_have(self):
        text = "sheet 2\nmove 0 a 0\nmove 0 a 1\nends"
        self.assertEqual(Sheet.read(text).moves, ((0, "a", 0), (0, "a", 1)))
        self.assertEqual(self.place_of(text.replace("sheet", "format")), 2)
