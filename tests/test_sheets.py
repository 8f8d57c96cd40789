"""Sheets: their parts, goals, texts and equality."""

import unittest

from serialhouse.errors import BadSheet, BadText
from serialhouse.sheets import Sheet
from tests.helper import ANY, LAST, NOAA, TWICE, some_sheets

BAD_MOVES = (
    None, [], "", 0, {}, ((0, "a"),), ((0, "a", 0, 0),), ([0, "a", 0],), ((0, "a", 2),), ((2, "a", 0),),
    ((-1, "a", 0),), ((0, "a", -1),), ((0, "", 0),), ((0, "ab", 0),), ((0, "A", 0),), ((0, "1", 0),), ((0, " ", 0),),
    ((0, "\n", 0),), ((0, 0, 0),), ((0, None, 0),), ((True, "a", 0),), ((False, "a", 0),), ((0, "a", True),),
    ((0, "a", False),), ((0, "a", 0), (0, "a", 0)), ((0, "b", 0), (0, "a", 0)), ((1, "a", 0), (0, "a", 0)),
    ((0, "a", 1), (0, "a", 0)), ((0, "a", None),), (("0", "a", 0),), ((0, "a", (0,)),), (0, "a", 0), (None,),
    ((0, "a", 0), None), ((0, ("a",), 0),), ((0, ["a"], 0),))
BAD_ENDS = (
    None, [], [0], "", 0, {}, {0: 0}, (2,), (-1,), (True,), (False,), (0, 0), (1, 0), ("0",), (None,), ((0,),),
    (0, True), (0, None), ([],), (0, 1, 2))
BAD_SIZES = (0, -1, True, False, None, "2", (2,), [2], {}, 2 * [0])


class SheetTest(unittest.TestCase):
    def part_of(self, *parts):
        with self.assertRaises(BadSheet) as caught:
            Sheet(*parts)
        return caught.exception.part

    def test_attributes(self):
        moves = ((0, "c", 1), (0, "c", 2), (2, "a", 2))
        sheet = Sheet(4, moves, (1, 3))
        self.assertEqual((sheet.size, sheet.moves, sheet.ends, sheet.letters), (4, moves, (1, 3), "ac"))
        sheet = Sheet(ends=(), moves=(), size=1)
        self.assertEqual((sheet.size, sheet.moves, sheet.ends, sheet.letters), (1, (), (), ""))

    def test_any_size(self):
        sheet = Sheet(10 ** 59, ((10 ** 59 - 1, "z", 0),), (0, 10 ** 59 - 1))
        self.assertEqual(sheet.goals(10 ** 59 - 1, "z"), (0,))
        self.assertEqual(Sheet.read(str(sheet)), sheet)

    def test_bad_parts(self):
        for size in BAD_SIZES:
            for moves in ((), None):
                self.assertEqual(self.part_of(size, moves, None), "size")
        for moves in BAD_MOVES:
            for ends in ((), None):
                self.assertEqual(self.part_of(2, moves, ends), "moves", moves)
        for ends in BAD_ENDS:
            self.assertEqual(self.part_of(2, ((0, "a", 0), (0, "a", 1)), ends), "ends", ends)

    def test_any_parts(self):
        for thing in ANY:
            for parts in ((thing, (), ()), (1, thing, ()), (1, (), thing), (thing, thing, thing)):
                try:
                    sheet = Sheet(*parts)
                except BadSheet as error:
                    self.assertIn(error.part, ("size", "moves", "ends"))
                else:
                    self.assertEqual((sheet.size, sheet.moves, sheet.ends), parts)
                    self.assertNotIsInstance(sheet.size, bool)

    def test_goals(self):
        self.assertEqual(TWICE.goals(0, "a"), (0, 1))
        self.assertEqual(TWICE.goals(1, "a"), (1,))
        self.assertEqual(TWICE.goals(0, "b"), ())
        self.assertEqual(LAST.goals(state=1, letter="a"), ())
        for sheet in some_sheets(40, 1):
            for state in range(sheet.size):
                for letter in "abz":
                    right = tuple(move[2] for move in sheet.moves if move[:2] == (state, letter))
                    self.assertEqual(sheet.goals(state, letter), right)

    def test_equality(self):
        moves = ((0, "a", 0), (0, "a", 1), (1, "a", 1))
        self.assertTrue(TWICE == Sheet(2, moves, (1,)))
        self.assertFalse(TWICE != Sheet(2, moves, (1,)))
        for other in (Sheet(3, moves, (1,)), Sheet(2, moves, ()), Sheet(2, moves[1:], (1,))):
            self.assertFalse(TWICE == other)
            self.assertTrue(TWICE != other)
        self.assertFalse(NOAA.sheet == NOAA)
        self.assertFalse(NOAA == NOAA.sheet)
        self.assertTrue(NOAA.sheet == Sheet(NOAA.size, NOAA.moves, NOAA.ends))
        for thing in ANY + ((2, moves, (1,)), str(TWICE)):
            self.assertIs(LAST == thing, False)
            self.assertIs(thing == LAST, False)


class TextTest(unittest.TestCase):
    def place_of(self, text):
        with self.assertRaises(BadText) as caught:
            Sheet.read(text)
        return caught.exception.place

    def test_there_and_back(self):
        self.assertEqual(str(TWICE), "sheet 2\nmove 0 a 0\nmove 0 a 1\nmove 1 a 1\nends 1")
        self.assertEqual(str(Sheet(12, (), ())), "sheet 12\nends")
        self.assertEqual(str(Sheet(3, (), (0, 1, 2))), "sheet 3\nends 0 1 2")
        for sheet in some_sheets(100, 2):
            self.assertEqual(Sheet.read(str(sheet)), sheet)
            self.assertEqual(Sheet.read(text=str(sheet)), sheet)
            self.assertIs(type(Sheet.read(str(sheet))), Sheet)

    def test_no_string(self):
        for thing in ANY + (b"sheet 1\nends", ["sheet 1", "ends"], TWICE):
            if not isinstance(thing, str):
                self.assertEqual(self.place_of(thing), -1)
            else:
                self.assertEqual(self.place_of(thing), 0)

    def test_first_line(self):
        for line in ("", "sheet", "sheet ", "sheet 0", "sheet -1", "sheet 01", "sheet 1 ", " sheet 1", "sheet  1",
                     "format 1", "Sheet 1", "sheet a", "sheet +1", "sheet 1 1", "ends", "move 0 a 0", "sheet\t1",
                     "sheet 1\r", "sheet 1_0", "sheet one"):
            self.assertEqual(self.place_of(line + "\nends"), 0, repr(line))
            self.assertEqual(self.place_of(line), 0, repr(line))

    def test_wrong_lines(self):
        for line in ("", "move", "move 0 a", "move 0 a 0 0", "move 0 a 2", "move 2 a 0", "move 0 A 0", "move 0 ab 0",
                     "move 0  a 0", " move 0 a 0", "move 0 a 0 ", "move 00 a 0", "move -1 a 0", "move a 0 0", "Move 0 a 0",
                     "end", "ends ", "ends  0", "ends 0 0", "ends 1 0", "ends 2", "ends 00", "ends a", "ends 0 ",
                     "Ends", "endless", "sheet 2", "ends 0 1 2", "move 0 1 0"):
            self.assertEqual(self.place_of("sheet 2\n" + line), 1, repr(line))
            self.assertEqual(self.place_of("sheet 2\nmove 0 a 0\n" + line + "\nends"), 2, repr(line))
            self.assertEqual(self.place_of("sheet 2\nmove 0 a 0\n" + line + "\nnonsense"), 2, repr(line))

    def test_moves_that_do_not_ascend(self):
        self.assertEqual(self.place_of("sheet 2\nmove 0 b 0\nmove 0 a 0\nends"), 2)
        self.assertEqual(self.place_of("sheet 2\nmove 0 a 0\nmove 0 a 0\nends"), 2)
        self.assertEqual(self.place_of("sheet 2\nmove 0 a 0\nmove 1 a 0\nmove 0 b 0\nends"), 3)
        self.assertEqual(Sheet.read("sheet 11\nmove 2 a 0\nmove 10 a 0\nends").size, 11)

    def test_behind_the_ends(self):
        self.assertEqual(self.place_of("sheet 1\nends\n"), 2)
        self.assertEqual(self.place_of("sheet 1\nends 0\nends 0"), 2)
        self.assertEqual(self.place_of("sheet 1\nmove 0 a 0\nends 0\nmove 0 b 0\n\n"), 3)

    def test_ends_are_missing(self):
        self.assertEqual(self.place_of("sheet 1"), 1)
        self.assertEqual(self.place_of("sheet 1\nmove 0 a 0"), 2)
        self.assertEqual(self.place_of("sheet 1\nmove 0 a 0\nmove 0 b 0"), 3)

    def test_each_sign_changed(self):
        text = str(TWICE)
        for at in range(len(text)):
            for sign in ("", " ", "\n", "a", "9", "0", "1", "-", text[at] * 2):
                other = text[:at] + sign + text[at + 1:]
                try:
                    sheet = Sheet.read(other)
                except BadText as error:
                    self.assertLessEqual(error.place, other.count("\n") + 1)
                    beginning = other.split("\n")[:error.place]
                    self.assertTrue(all(self.place_of("\n".join(beginning[:many])) == many
                                        for many in range(1, len(beginning) + 1) if beginning[many - 1][:4] != "ends"))
                else:
                    self.assertEqual(str(sheet), other)
