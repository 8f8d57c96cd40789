"""The examples of the Parts 7 and later of the document, as it tells them."""

import unittest

from serialhouse.books import Bureau
from serialhouse.console import Console
from serialhouse.crossings import judge_never_fewer, never_fewer_holds
from serialhouse.errors import NotIn, StillInForce, TooFar
from serialhouse.findings import finding_holds
from serialhouse.formats import Format
from serialhouse.growth import degree, judge_growth
from serialhouse.growthchecks import growth_holds
from serialhouse.lengths import Lengths
from serialhouse.limits import limits, limits_paper, thin_bound, thin_holds
from serialhouse.pieces import piece_count, pieces
from serialhouse.remainders import (
    around, empty_lengths, judge_remainders, judge_rest, leave_alike, lengths_with, remainders, round_holds)
from serialhouse.shares import closed_lots, lost_share, share_at

NOAA = Format(2, ((0, "a", 1), (0, "b", 0), (1, "b", 0)), (0, 1))
PAIRS = Format(2, ((0, "a", 1), (1, "a", 0), (1, "b", 0)), (0,))
AB = Format(2, ((0, "a", 0), (0, "b", 1), (1, "b", 1)), (0, 1))
EVEN = Format(2, ((0, "a", 1), (1, "a", 0)), (0,))
ENDA = Format(2, ((0, "a", 1), (0, "b", 0), (1, "a", 1), (1, "b", 0)), (1,))


class PartSevenTest(unittest.TestCase):
    def test_remainders(self):
        self.assertEqual(remainders(NOAA, 2, 6), (1, 0, 1, 1, 0, 1))
        self.assertEqual((around(NOAA, 2), around(NOAA, 3)), ((0, 3), (0, 8)))
        with self.assertRaises(TooFar) as caught:
            around(NOAA, 3, most=7)
        self.assertEqual(caught.exception.most, 7)
        self.assertIs(round_holds(NOAA, 2, ("round", 5, 3 * 10 ** 20)), True)

    def test_lots(self):
        self.assertTrue(lengths_with(NOAA, 2, 0) == Lengths((), 0, 3, (1,)))
        self.assertEqual(lengths_with(NOAA, 2, 0).at(2), 7)
        self.assertEqual(judge_rest(NOAA, 8, 4), ("never", 0, 12))
        self.assertEqual(remainders(NOAA, 8, 14), (1, 2, 3, 5, 0, 5, 5, 2, 7, 1, 0, 1, 1, 2))
        self.assertTrue(empty_lengths(PAIRS) == Lengths((), 0, 2, (1,)))
        self.assertEqual(around(PAIRS, 2), (1, 1))
        self.assertTrue(lengths_with(PAIRS, 2, 1) == Lengths((0,), 1, 1, ()))

    def test_told_lots(self):
        lot = Lengths((0,), 2, 4, (0, 2))
        self.assertEqual((lot.few, lot.first, lot.around, lot.rests), ((), 0, 2, (0,)))
        self.assertTrue(Lengths((), 0, 2, (0,)) & Lengths((), 0, 3, (1,)) == Lengths((), 0, 6, (4,)))

    def test_alike(self):
        self.assertIs(leave_alike(NOAA, PAIRS, 1), True)
        self.assertEqual(judge_remainders(NOAA, PAIRS, 2), ("apart", 2))


class PartEightTest(unittest.TestCase):
    def test_growth(self):
        short = Format(2, ((0, "a", 1),), (1,))
        for form, paper in ((NOAA, ("doubles", "", "abb", "bab", "")),
                            (AB, ("power", 1, ((0, 2, 0), (1, 1, 0)), ("", "a", "b", "b", ""))),
                            (short, ("ends", ((0, 1), (1, 0))))):
            self.assertIs(growth_holds(form, paper), True)
            self.assertEqual(judge_growth(form)[0], paper[0])
        self.assertEqual(degree(AB), 1)

    def test_pieces(self):
        self.assertEqual(pieces(AB), (0, (((1, 1), (1, 1)),)))
        self.assertEqual(pieces(EVEN), (0, (((1, 1),), ())))
        self.assertEqual(pieces(Format(1, (), ())), (0, ((),)))
        self.assertEqual(piece_count(AB, 10 ** 12), 10 ** 12 + 1)

    def test_never_fewer(self):
        self.assertIs(never_fewer_holds(AB, EVEN, ("from", 0, ((0, (0, 2)), (1, (2, 2))))), True)
        self.assertIs(never_fewer_holds(EVEN, AB, ("again", 1, (-2, -2))), True)
        self.assertEqual(judge_never_fewer(AB, EVEN)[:2], ("from", 0))
        self.assertEqual(judge_never_fewer(EVEN, AB)[0], "again")


class PartNineTest(unittest.TestCase):
    def test_shares(self):
        self.assertEqual(closed_lots(ENDA, "ab"), (((0, 1), 1),))
        self.assertEqual(closed_lots(EVEN, "a"), (((0, 1), 2),))
        self.assertEqual(closed_lots(EVEN, "ab"), ())
        self.assertEqual(lost_share(EVEN, "ab"), (1, 1))
        self.assertEqual(closed_lots(NOAA, "ab"), ())
        self.assertEqual(share_at(NOAA, "ab", 3), (5, 8))

    def test_limits(self):
        self.assertEqual(limits(ENDA, "ab"), ((1, 2),))
        self.assertEqual(limits(EVEN, "a"), ((1, 1), (0, 1)))
        self.assertEqual(limits_paper(EVEN, "a"), (
            "limits", (((0, 1), 2),), (((1, 2), (1, 2)),), ((((1, 1), (0, 1)), ((0, 1), (1, 1))),)))
        self.assertEqual(limits(EVEN, "ab"), ((0, 1),))

    def test_thin(self):
        self.assertIs(thin_holds(NOAA, "ab", ("thin", ("aa", "a"))), True)
        self.assertEqual(thin_bound(NOAA, "ab"), (2, (3, 4)))


class PartTenTest(unittest.TestCase):
    def test_bureau(self):
        bureau = Bureau()
        bureau.start("card", NOAA)
        self.assertEqual([bureau.issue_next("card") for _ in range(4)], ["", "a", "b", "ab"])
        with self.assertRaises(NotIn) as caught:
            bureau.issue("card", "aa")
        self.assertEqual(caught.exception.word, "aa")
        bureau.void("card", "a")
        self.assertEqual((bureau.issue_next("card"), bureau.number_now("card", "ab")), ("ba", 3))
        form = Format(3, ((0, "a", 1), (1, "a", 2)), (2,))
        bureau.edit("card", "|", form)
        self.assertEqual((bureau.number_now("card", "ab"), bureau.issue_next("card")), (4, "aa"))
        with self.assertRaises(StillInForce) as caught:
            bureau.edit("card", "-", form)
        self.assertEqual(caught.exception.word, "aa")
        bureau.void("card", "aa")
        bureau.edit("card", "-", form)
        self.assertEqual(bureau.issue_drawn("card", 3, "001"), "abb")


class LastTest(unittest.TestCase):
    def test_findings(self):
        self.assertIs(finding_holds(("mean", 4, 4, 2)), False)

    def test_console(self):
        console = Console()
        for command, answer in (
                ("keep noaa format 2;move 0 a 1;move 0 b 0;move 1 b 0;ends 0 1", "ok"), ("count noaa 4", "8"),
                ("rule noaa", "1 2 | 1 1"), ("word noaa 4", "ba"), ("mean noaa 3", "18/5"), ("round noaa 2", "0 3"),
                ("growth noaa", "doubles"), ("toss noaa 2 10", "word bb 2")):
            self.assertEqual(console.run(command), answer)
