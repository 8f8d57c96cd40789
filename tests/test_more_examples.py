"""The examples of the Parts 3 to 6 of the document, as it tells them."""

import unittest

from serialhouse.codes import Code, read
from serialhouse.drawing import draw_word, letter_mean, word_mean
from serialhouse.errors import TooLong, TooMuch
from serialhouse.formats import Format
from serialhouse.intoleads import barring_depth, into_holds, is_into
from serialhouse.leads import by_number, class_marks, lead_holds, many_leads, parting_depth, renamings
from serialhouse.leadtables import is_table, is_whole_table, led
from serialhouse.lengthcodes import code_of, further_word, share_of
from serialhouse.numbering import (
    between, first_from, how_many_ahead, last_to, length_at, many_to, number_of, step, word_at, words_at)
from serialhouse.readers import Reader
from serialhouse.rests import code_holds, is_one_way, judge_look, look, look_holds
from serialhouse.tosses import draw, draw_by, leaves_at, mean, mean_by, open_at, open_round, rows_to
from serialhouse.totals import joins_hold, least_total
from serialhouse.trees import excess, is_even, tree_mean, tree_paper, tree_shares, unlike_depth

NOAA = Format(2, ((0, "a", 1), (0, "b", 0), (1, "b", 0)), (0, 1))
ONES = Format(1, ((0, "a", 0),), (0,))
FEW = Format(2, ((0, "a", 1), (0, "c", 1)), (1,))
LEFT = Format(3, ((0, "a", 1), (1, "a", 2), (1, "b", 2)), (2,))
RIGHT = Format(4, ((0, "a", 1), (0, "b", 2), (1, "a", 3), (2, "a", 3)), (3,))
ALL = Format(1, ((0, "a", 0), (0, "b", 0)), (0,))
EVEN = Format(2, ((0, "a", 1), (0, "b", 1), (1, "a", 0), (1, "b", 0)), (0,))
SOME = Format(2, ((0, "a", 1), (1, "a", 0), (1, "b", 0)), (0,))


class PartThreeTest(unittest.TestCase):
    def test_numbers(self):
        self.assertEqual(number_of(NOAA, "ba"), 4)
        self.assertEqual(word_at(NOAA, 4), "ba")
        self.assertEqual(words_at(NOAA, 3, 4), ("ab", "ba", "bb", "aba"))
        self.assertEqual(step(NOAA, "b", 2), "ba")
        self.assertEqual(step(NOAA, "ba", -4), "")

    def test_texts(self):
        self.assertEqual(how_many_ahead(NOAA, "aa"), 3)
        self.assertEqual(first_from(NOAA, "aa"), "ab")
        self.assertEqual(last_to(NOAA, "aa"), "b")
        self.assertEqual(between(NOAA, "ba", "a"), 2)
        self.assertEqual(many_to(NOAA, 2), 6)

    def test_lengths(self):
        self.assertEqual(length_at(NOAA, 10 ** 30), 142)
        self.assertEqual(length_at(ONES, 10 ** 50), 10 ** 50)
        self.assertRaises(TooLong, word_at, ONES, 10 ** 50)

    def test_few_words(self):
        self.assertEqual(words_at(FEW, 0, 9), ("a", "c"))
        self.assertIsNone(word_at(FEW, 2))
        self.assertIsNone(step(FEW, "a", -1))
        self.assertEqual(first_from(FEW, "b"), "c")
        self.assertIsNone(first_from(FEW, "aa"))


class PartFourTest(unittest.TestCase):
    def test_parted(self):
        self.assertEqual(class_marks(LEFT, RIGHT), ((0, 1, 2), (3, 4, 4, 2)))
        self.assertEqual(parting_depth(LEFT, RIGHT), 1)
        rounds = (((0, 0, 1), (0, 0, 0, 1)), ((0, 1, 2), (1, 0, 0, 2)))
        self.assertIs(lead_holds(LEFT, RIGHT, ("parted", rounds)), True)
        self.assertEqual(by_number(LEFT, RIGHT, "ab"), "ba")

    def test_whole_table(self):
        table = ((0, 0, (("a", "b", 1), ("b", "a", 1))), (1, 1, (("a", "a", 0), ("b", "b", 0))))
        self.assertIs(is_whole_table(EVEN, EVEN, table), True)
        self.assertEqual(led(EVEN, EVEN, table, "abba"), "bbaa")

    def test_into(self):
        self.assertIs(is_into(SOME, EVEN), True)
        self.assertIs(is_table(SOME, EVEN, ((0, 0, (("a", "a", 1),)), (1, 1, (("a", "a", 0), ("b", "b", 0))))), True)
        self.assertIs(into_holds(EVEN, SOME, ("barred", ((0, 0, 0, ("a", "b")),))), True)
        self.assertEqual(barring_depth(EVEN, SOME), 1)
        table = ((0, 0, (("a", "a", 1), ("b", "b", 1))), (1, 0, (("a", "b", 0), ("b", "a", 0))))
        self.assertIs(into_holds(EVEN, ALL, ("into", table)), True)
        self.assertEqual(led(EVEN, ALL, table, "ab"), "aa")
        self.assertIs(into_holds(ALL, EVEN, ("barred", ((0, 0, 1, ("a",)), (0, 1, 0, None)))), True)

    def test_how_many(self):
        self.assertEqual(many_leads(ALL, ALL, 2, 1000), 8)
        self.assertEqual(renamings(SOME, SOME), ((("a", "a"), ("b", "b")),))


class PartFiveTest(unittest.TestCase):
    def test_draws(self):
        self.assertEqual(draw(3, ""), ("open", 1, 0))
        self.assertEqual(draw(3, "10"), ("drawn", 2, 2))
        self.assertEqual(draw(3, "1011"), ("drawn", 2, 2))
        self.assertEqual(draw(3, "11"), ("open", 1, 0))
        self.assertEqual(draw(3, "1101"), ("drawn", 1, 4))
        self.assertEqual(draw(1, "0"), ("drawn", 0, 0))
        self.assertEqual(rows_to(3, 0, 4), ("00", "1100"))

    def test_places(self):
        self.assertEqual((open_at(5, 3), leaves_at(5, 3), leaves_at(5, 2)), (3, 5, 0))
        self.assertEqual((open_round(5), open_round(6), open_round(8)), ((0, 4), (1, 2), (3, 1)))

    def test_means(self):
        self.assertEqual((mean(3), mean(4), mean(9), mean(12)), ((8, 3), (2, 1), (14, 3), (14, 3)))
        self.assertEqual(draw_by((1, 2), "0"), ("drawn", 1, 1))
        self.assertEqual(draw_by((1, 2), "10"), ("drawn", 0, 2))
        self.assertEqual((mean_by((1, 2)), mean_by((0, 7))), ((2, 1), (0, 1)))

    def test_words(self):
        self.assertEqual(draw_word(NOAA, 3, "100"), ("drawn", "bbb", 3))
        self.assertEqual(word_mean(NOAA, 3), (18, 5))
        self.assertEqual(letter_mean(NOAA, 3), (4, 1))

    def test_trees(self):
        self.assertEqual(tree_shares(2, ((-1, 1), (-2, 0))), ((2, 3), (1, 3)))
        self.assertEqual(tree_mean(2, ((-1, 1), (-2, 0))), (2, 1))
        tree = ((1, 1), (-1, -2))
        self.assertIs(is_even(2, tree), True)
        self.assertEqual((tree_mean(2, tree), excess(2, tree), unlike_depth(2, tree)), ((2, 1), (1, 1), 1))
        self.assertEqual(tree_paper(2, ((0, 0),)), ("endless", ""))


class PartSixTest(unittest.TestCase):
    def test_codes(self):
        one = Code("ab", ("a", "ab", "bb"))
        self.assertIs(code_holds(one, ("one", ("b",))), True)
        self.assertIsNone(look(one))
        self.assertIs(look_holds(one, ("endless", (0,), (1,), (2,), (2,))), True)
        self.assertEqual(share_of(one), (1, 1))
        self.assertEqual((read(one, "abb"), read(one, "abbb")), ((0, 2), (1, 2)))
        self.assertIs(code_holds(Code("ab", ("a", "ab", "ba")), ("two", (0, 2), (1, 0))), True)

    def test_looks(self):
        late = Code("ab", ("a", "aab", "bb"))
        self.assertIs(is_one_way(late), True)
        self.assertIs(code_holds(late, ("one", ("ab", "b"))), True)
        self.assertIsNone(look(late))
        self.assertIs(look_holds(late, ("endless", (0, 0), (1,), (2,), (2,))), True)
        near = Code("ab", ("a", "aab"))
        self.assertEqual(look(near), 2)
        self.assertIs(look_holds(near, ("within", 2, (("ab", 1), ("b", 0)))), True)
        self.assertEqual(judge_look(near)[:2], ("within", 2))

    def test_lengths(self):
        self.assertEqual(code_of("ab", (2, 1, 3, 3)).words, ("ba", "a", "bba", "bbb"))
        self.assertEqual(further_word(Code("ab", ("a", "bb"))), "ba")
        with self.assertRaises(TooMuch) as caught:
            code_of("ab", (1, 1, 2))
        self.assertEqual(caught.exception.share, (5, 4))

    def test_totals(self):
        self.assertEqual(least_total(2, (5, 1, 1, 3)), 17)
        self.assertIs(joins_hold(2, (5, 1, 1, 3), ((1, 2), (3, 4), (0, 5))), True)
        self.assertEqual(least_total(3, (1, 1, 1, 1)), 6)

    def test_readers(self):
        reader = Reader(Code("ab", ("a", "aab")))
        self.assertEqual((reader.take("a"), reader.left), ((), "a"))
        self.assertEqual((reader.take("a"), reader.left), ((), "aa"))
        self.assertEqual((reader.take("a"), reader.sure, reader.left), ((0,), (0,), "aa"))
        self.assertEqual((reader.take("b"), reader.sure, reader.left), ((1,), (0, 1), ""))
