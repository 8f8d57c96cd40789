"""Drawing by tosses, against the figures of shares place by place."""

import itertools
import random
import unittest
from fractions import Fraction

from serialhouse.tosses import draw, draw_by, leaves_at, mean, mean_by, open_at, open_round, rows_to

WEIGHTS = ((1, 2), (2, 1), (0, 7), (7, 0), (5,), (1, 1, 1), (3, 0, 5), (1, 2, 4, 1), (6, 10), (0, 0, 3, 0), (1, 0, 1),
           (297, 1, 2), (1, 1, 1, 1, 1, 1, 1, 1), (13, 21, 34, 55, 89, 1, 0, 2), (4, 4), (12, 4, 8))


def figure(weight, total, depth):
    return 2 ** depth * weight // total % 2


def open_places(weights, depth):
    return sum(2 ** depth * weight % sum(weights) for weight in weights) // sum(weights)


def tree(weights, depth):
    """All rows of so many tosses by depth: what they draw, or their open place, as the document tells it."""
    told = {}
    rows = [""]
    for now in range(depth + 1):
        leaves = [index for index, weight in enumerate(weights) if figure(weight, sum(weights), now)]
        for place, row in enumerate(rows):
            if place < len(leaves):
                told[row] = ("drawn", leaves[place], now)
            else:
                told[row] = ("open", len(rows) - len(leaves), place - len(leaves))
        rows = [row + sign for row in rows[len(leaves):] for sign in "01"]
    return told


def told_of(tosses, told):
    """What tosses draw: what the first row does with which they begin, and which draws something."""
    for many in range(len(tosses) + 1):
        if told[tosses[:many]][0] == "drawn":
            return told[tosses[:many]]
    return told[tosses]


class DrawTest(unittest.TestCase):
    def test_weights(self):
        for weights in WEIGHTS:
            told = tree(weights, 7)
            for many in range(8):
                for signs in itertools.product("01", repeat=many):
                    tosses = "".join(signs)
                    if any(tosses[:at] in told and told[tosses[:at]][0] == "drawn" for at in range(many + 1)):
                        expected = told_of(tosses, told)
                    else:
                        expected = told[tosses]
                    self.assertEqual(draw_by(weights, tosses), expected)
                    if set(weights) == {1}:
                        self.assertEqual(draw(len(weights), tosses), expected)

    def test_things(self):
        for many in range(1, 20):
            for number in range(64):
                tosses = f"{number:06b}"
                self.assertEqual(draw(many, tosses), draw_by((1,) * many, tosses))
                self.assertEqual(draw(many, tosses[:3]), draw_by((1,) * many, tosses[:3]))

    def test_tosses_behind_are_not_looked_at(self):
        self.assertEqual(draw(3, "10" + "01" * 100), ("drawn", 2, 2))
        self.assertEqual(draw_by((1, 2), "0" + "1" * 300), ("drawn", 1, 1))
        self.assertEqual(draw(1, "01"), ("drawn", 0, 0))
        self.assertEqual(draw(1, ""), ("drawn", 0, 0))
        self.assertEqual(draw_by((0, 0, 3), "0101"), ("drawn", 2, 0))
        self.assertEqual(draw_by((4,), ""), ("drawn", 0, 0))

    def test_many_tosses(self):
        # An index is drawn by the share of rows that its share tells.
        self.assertEqual(draw(3, "1" * 399)[0], "open" if 399 % 4 == 3 else "drawn")
        source = random.Random(361)
        for many in (10 ** 60 - 1, 10 ** 59 + 3, 2 ** 199, 2 ** 180 + 1, 7):
            for _ in range(20):
                tosses = "".join(source.choice("01") for _ in range(400))
                kind, index, used = draw(many, tosses)
                self.assertEqual(kind, "drawn")
                self.assertLess(index, many)
                self.assertIn(tosses[:used], rows_to(many, index, used))
                short = draw(many, tosses[:used - 1])
                self.assertEqual(short[:2], ("open", 2 ** (used - 1) % many))
        self.assertEqual(draw(2 ** 199, "1" * 199), ("drawn", 2 ** 199 - 1, 199))


class PlacesTest(unittest.TestCase):
    def test_open_places_and_leaves(self):
        for many in range(1, 41):
            for depth in range(50):
                self.assertEqual(open_at(many, depth), open_places((1,) * many, depth))
                self.assertEqual(leaves_at(many, depth), many * figure(1, many, depth))
        self.assertEqual([open_at(1, depth) for depth in (0, 1, 10 ** 60)], [0, 0, 0])
        self.assertEqual([leaves_at(1, depth) for depth in (0, 1, 10 ** 60)], [1, 0, 0])

    def test_great_ones(self):
        source = random.Random(362)
        for _ in range(60):
            many = source.randrange(2, 10 ** 60)
            depth = source.choice((0, 1, 399, 400, 10 ** 60 - 1, source.randrange(10 ** 60)))
            self.assertEqual(open_at(many, depth), pow(2, depth, many))
            leaves = 0 if depth == 0 else 2 * pow(2, depth - 1, many) - pow(2, depth, many)
            self.assertEqual(leaves_at(many, depth), leaves)
        for power in (1, 5, 199):
            self.assertEqual([leaves_at(2 ** power, depth) for depth in (power - 1, power, power + 1)], [0, 2 ** power, 0])

    def test_rounds(self):
        for many in range(1, 301):
            first, around = open_round(many)
            row = [2 ** depth % many if many > 1 else 0 for depth in range(2 * many + 20)]
            pairs = [(less, start) for less in range(1, many + 1) for start in range(12)
                     if all(row[at] == row[at + less] for at in range(start, start + many))]
            self.assertEqual((around, first), min(pairs))


class RowsTest(unittest.TestCase):
    def test_all_rows(self):
        for many in range(1, 14):
            told = tree((1,) * many, 8)
            for index in range(many):
                for most in range(9):
                    rows = [row for row in sorted(told, key=lambda row: (len(row), row))
                            if told[row][:2] == ("drawn", index) and len(row) <= most]
                    self.assertEqual(rows_to(many, index, most), tuple(rows))

    def test_great_ones(self):
        for many, index in ((10 ** 60 - 1, 123456), (10 ** 59 + 7, 10 ** 59), (2 ** 150, 2 ** 149 + 1), (299, 298)):
            rows = rows_to(many, index, 400)
            self.assertEqual([len(row) for row in rows], [depth for depth in range(401) if leaves_at(many, depth)])
            for row in rows:
                self.assertEqual(draw(many, row), ("drawn", index, len(row)))
        self.assertEqual(rows_to(1, 0, 0), ("",))
        self.assertEqual(rows_to(2, 1, 0), ())


class MeanTest(unittest.TestCase):
    def told(self, weights):
        """The sum to a great depth, and how much it can be too small at most."""
        deep = 800
        total = sum(Fraction(open_places(weights, depth), 2 ** depth) for depth in range(deep))
        return total, Fraction(len(weights), 2 ** (deep - 1))

    def check(self, weights, found):
        least, error = self.told(weights)
        self.assertLessEqual(least, Fraction(*found))
        self.assertLessEqual(Fraction(*found), least + error)
        self.assertEqual((Fraction(*found).numerator, Fraction(*found).denominator), found)

    def test_means(self):
        for many in list(range(1, 34)) + [64, 96, 131, 257, 299, 300]:
            self.check((1,) * many, mean(many))
            self.assertEqual(mean_by((1,) * min(many, 8)), mean(min(many, 8)))
            if many <= 150:
                self.assertEqual(mean(2 * many), (mean(many)[0] + mean(many)[1], mean(many)[1]))
        for weights in WEIGHTS:
            self.check(weights, mean_by(weights))

    def test_by_leaves(self):
        for weights in WEIGHTS:
            total = sum(Fraction(depth * figure(weight, sum(weights), depth), 2 ** depth)
                        for weight in weights for depth in range(400))
            self.assertLess(abs(total - Fraction(*mean_by(weights))), Fraction(1, 2 ** 350))

    def test_told_ones(self):
        self.assertEqual([mean(many) for many in (1, 2, 3, 4, 5, 8, 9, 12)],
                         [(0, 1), (1, 1), (8, 3), (2, 1), (18, 5), (3, 1), (14, 3), (14, 3)])
        self.assertEqual(mean_by((5,)), (0, 1))
        self.assertEqual(mean_by((0, 0, 3, 0)), (0, 1))
