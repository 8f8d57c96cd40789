"""Trees of tosses of any hand, against rows of tosses gone through."""

import itertools
import random
import unittest
from fractions import Fraction

from serialhouse.errors import Endless, Uneven
from serialhouse.ratios import is_fraction
from serialhouse.tosses import leaves_at, mean
from serialhouse.trees import (
    does_end, excess, is_even, is_least, is_tree, least_tree, tree_holds, tree_leaves, tree_mean, tree_paper,
    tree_shares, unlike_depth, walked)
from tests.helper import ANY, changed

LOOSE = ((1, -1), (1, 1))
TREES = [(1, ()), (1, ((-1, -1),)), (1, ((0, -1),)), (1, ((0, 0),)), (2, ((-1, -2),)), (2, ((-1, 1), (-2, 0))),
         (2, ((1, 1), (-1, -2))), (2, ((0, 0),)), (2, LOOSE), (3, ((1, 2), (-1, -2), (-3, 0))), (2, ((-1, -1),)),
         (4, ((1, 2), (-1, -2), (-3, -4))), (2, ((-1, 1), (-2, -2))), (3, ((0, 1), (2, 0), (-1, 3), (-2, -3))),
         (2, ((1, 2), (-1, -2), (3, 3), (2, 3)))]


def told_tree(many, thing):
    if type(thing) is not tuple:
        return False
    for node in thing:
        if type(node) is not tuple or len(node) != 2:
            return False
        for place in node:
            if type(place) is not int or not -many <= place < len(thing):
                return False
    if not thing:
        return many == 1
    met = {0}
    for _ in thing:
        met |= {place for node in met for place in thing[node] if place >= 0}
    return len(met) == len(thing)


def some_trees(count, seed):
    """Trees of different kinds, the same ones each time."""
    source = random.Random(seed)
    made = list(TREES)
    while len(made) < count:
        many = source.randint(1, 5)
        size = source.randint(1, 5)
        tree = tuple((source.randint(-many, size - 1), source.randint(-many, size - 1)) for _ in range(size))
        if told_tree(many, tree):
            made.append((many, tree))
    return made


def ends(tree):
    good = set()
    for _ in range(len(tree) + 1):
        good |= {node for node, pair in enumerate(tree) if any(place < 0 or place in good for place in pair)}
    return good


def by_depths(many, tree, depth):
    """For each depth how many rows draw each thing with their last toss, row by row."""
    told = []
    nodes = [0]
    for _ in range(depth):
        places = [place for node in nodes for place in tree[node]]
        told.append([len([place for place in places if place == -1 - thing]) for thing in range(many)])
        nodes = [place for place in places if place >= 0]
    return told


def told_places(many, tree):
    """Shares and means of all nodes by Gauss, without their being looked at in an order."""
    size = len(tree)
    rows = []
    for node, pair in enumerate(tree):
        row = [Fraction(0)] * (size + many + 1)
        row[node] += 1
        row[-1] = Fraction(1)
        for place in pair:
            row[place if place >= 0 else size - 1 - place] += Fraction(-1 if place >= 0 else 1, 2)
        rows.append(row)
    for column in range(size):
        pivot = next(at for at in range(column, size) if rows[at][column])
        rows[column], rows[pivot] = rows[pivot], rows[column]
        rows[column] = [part / rows[column][column] for part in rows[column]]
        for at in range(size):
            if at != column and rows[at][column]:
                rows[at] = [mine - rows[at][column] * yours for mine, yours in zip(rows[at], rows[column])]
    return [[(part.numerator, part.denominator) for part in row[size:]] for row in rows]


class TreeTest(unittest.TestCase):
    def test_any_value(self):
        for many in range(1, 5):
            for thing in ANY + (((0, 0), (0, 0)), ((1, -1),), ((-5, -1),), ((-1, True),), ((-1, -2, -1),), [(-1, -1)],
                                ((1, -1), (-1, -1), (2, 2)), ((False, -1),), (["-1", -1],), ((-1, 10 ** 59),), ((-1, "0"),)):
                self.assertIs(is_tree(many, thing), told_tree(many, thing), thing)
            self.assertIs(is_tree(many, ()), many == 1)

    def test_one_thing_otherwise(self):
        right = 0
        for number, (many, tree) in enumerate(some_trees(60, 401)):
            self.assertIs(is_tree(many, tree), True)
            for thing in changed(tree, number, 60):
                self.assertIs(is_tree(many, thing), told_tree(many, thing))
                right += is_tree(many, thing)
        self.assertGreater(right, 100)
        self.assertIs(is_tree(2, ((-1, -2), (-1, -2))), False)
        self.assertIs(is_tree(1, ((-1, -2),)), False)

    def test_walks_and_leaves(self):
        for many, tree in some_trees(40, 402):
            if not tree:
                continue
            told = by_depths(many, tree, 6)
            self.assertEqual(tree_leaves(many, tree, 0), (0,) * many)
            for depth in range(1, 7):
                self.assertEqual(tree_leaves(many, tree, depth), tuple(told[depth - 1]))
            drawn = [[0] * many for _ in range(6)]
            for signs in itertools.product("01", repeat=6):
                node = 0
                for used, sign in enumerate(signs, start=1):
                    node = tree[node][int(sign)]
                    if node < 0:
                        break
                expected = ("drawn", -1 - node, used) if node < 0 else ("at", node)
                self.assertEqual(walked(many, tree, "".join(signs)), expected)
                self.assertEqual(walked(many, tree, ""), ("at", 0))
                if node < 0:
                    drawn[used - 1][-1 - node] += 2 ** used
            self.assertEqual([[each // 64 for each in row] for row in drawn], told)

    def test_great_depths(self):
        self.assertEqual(tree_leaves(1, ((0, 0),), 40), (0,))
        self.assertEqual(tree_leaves(2, ((1, 1), (0, -2)), 40), (0, 2 ** 20))
        self.assertEqual([tree_leaves(1, (), depth) for depth in (0, 1, 40)], [(1,), (0,), (0,)])
        self.assertEqual(walked(1, (), "0110"), ("drawn", 0, 0))
        self.assertEqual(walked(2, ((0, -2),), "0" * 400), ("at", 0))
        self.assertEqual(walked(2, ((0, -2),), "0" * 399 + "11"), ("drawn", 1, 400))


class PaperTest(unittest.TestCase):
    def test_papers(self):
        kinds = []
        for many, tree in some_trees(300, 403):
            if not tree:
                continue
            paper = tree_paper(many, tree)
            kinds.append(paper[0])
            self.assertIs(does_end(many, tree), len(ends(tree)) == len(tree))
            self.assertIs(tree_holds(many, tree, paper), True)
            if paper[0] == "ends":
                self.assertTrue(does_end(many, tree))
                told = told_places(many, tree)
                self.assertEqual([list(row) + [each] for row, each in zip(paper[1], paper[2])], told)
                self.assertEqual(tree_shares(many, tree), paper[1][0])
                self.assertEqual(tree_mean(many, tree), paper[2][0])
                self.assertTrue(all(is_fraction(each) for row in paper[1] for each in row))
            else:
                kind, node = walked(many, tree, paper[1])
                self.assertEqual(kind, "at")
                self.assertNotIn(node, ends(tree))
                for call in (tree_shares, tree_mean, excess, unlike_depth):
                    with self.assertRaises(Endless) as caught:
                        call(many, tree)
                    self.assertIs(tree_holds(many, tree, caught.exception.paper), True)
        self.assertGreater(min(kinds.count("ends"), kinds.count("endless")), 20)

    def test_one_thing_otherwise(self):
        for number, (many, tree) in enumerate(some_trees(60, 404)):
            if not tree:
                continue
            paper = tree_paper(many, tree)
            for thing in changed(paper, number, 60):
                told = thing == paper and str(thing) == str(paper)
                if paper[0] == "endless":
                    told = self.is_endless(many, tree, thing)
                self.assertIs(tree_holds(many, tree, thing), told, thing)

    def is_endless(self, many, tree, thing):
        if type(thing) is not tuple or len(thing) != 2 or thing[0] != "endless" or type(thing[1]) is not str:
            return False
        if set(thing[1]) - set("01"):
            return False
        told = walked(many, tree, thing[1])
        return told[0] == "at" and told[1] not in ends(tree)

    def test_tosses_without_end(self):
        for many, tree in some_trees(60, 405):
            if not tree:
                continue
            for most in range(5):
                for signs in itertools.product("01", repeat=most):
                    thing = ("endless", "".join(signs))
                    self.assertIs(tree_holds(many, tree, thing), self.is_endless(many, tree, thing))
        self.assertIs(tree_holds(2, LOOSE, ("endless", "0" * 2000)), True)
        self.assertIs(tree_holds(2, LOOSE, ("endless", "1")), False)
        self.assertIs(tree_holds(2, LOOSE, ("endless", "")), False)
        self.assertIs(tree_holds(2, LOOSE, ("endless", "02")), False)

    def test_any_value(self):
        for many, tree in TREES:
            for thing in ANY:
                for paper in (thing, ("ends", thing, thing), ("endless", thing), ("ends", thing)):
                    told = bool(tree) and self.is_endless(many, tree, paper)
                    self.assertIs(tree_holds(many, tree, paper), told)
        self.assertIs(tree_holds(1, (), ("ends", (), ())), False)
        self.assertIs(tree_holds(1, (), ("endless", "")), False)
        half = ((1, 2), (1, 2))
        self.assertIs(tree_holds(2, ((-1, -2),), ("ends", (half,), ((1, 1),))), True)
        for rows, means in (((((2, 4), (1, 2)),), ((1, 1),)), ((half,), ((2, 1),)), ((half, half), ((1, 1),)),
                            ((half,), ((1, 1), (1, 1))), (((half[0],),), ((1, 1),)), ((half,), (True,)),
                            ((((1, 2), (1, 3)),), ((1, 1),)), ((half,), ((True, 1),)), (half, ((1, 1),))):
            self.assertIs(tree_holds(2, ((-1, -2),), ("ends", rows, means)), False)

    def test_endless_trees_have_no_paper_that_they_end(self):
        for share in ((0, 1), (1, 2), (1, 1), (-3, 7)):
            for told in ((0, 1), (1, 1), (-5, 3)):
                self.assertIs(tree_holds(2, ((0, 0),), ("ends", ((share, share),), (told,))), False)


class JudgedTest(unittest.TestCase):
    def test_trees(self):
        seen = []
        for many, tree in some_trees(200, 406) + [(many, least_tree(many)) for many in range(1, 8)]:
            if not does_end(many, tree):
                self.assertEqual((is_even(many, tree), is_least(many, tree)), (False, False))
                continue
            shares = tree_shares(many, tree)
            self.assertIs(is_even(many, tree), len(set(shares)) == 1)
            if len(set(shares)) > 1:
                self.assertIs(is_least(many, tree), False)
                for call in (excess, unlike_depth):
                    with self.assertRaises(Uneven) as caught:
                        call(many, tree)
                    self.assertEqual(caught.exception.shares, shares)
                continue
            more = Fraction(*tree_mean(many, tree)) - Fraction(*mean(many))
            self.assertEqual(excess(many, tree), (more.numerator, more.denominator))
            self.assertGreaterEqual(more, 0)
            self.assertIs(is_least(many, tree), more == 0)
            told = [depth for depth in range(30)
                    if set(tree_leaves(many, tree, depth)) != {leaves_at(many, depth) // many}]
            self.assertEqual(unlike_depth(many, tree), told[0] if told else None)
            seen.append(unlike_depth(many, tree))
        self.assertGreater(len(set(seen)), 2)

    def test_without_nodes(self):
        self.assertEqual((does_end(1, ()), is_even(1, ()), is_least(1, ())), (True, True, True))
        self.assertEqual((tree_shares(1, ()), tree_mean(1, ()), excess(1, ())), (((1, 1),), (0, 1), (0, 1)))
        self.assertIsNone(unlike_depth(1, ()))

    def test_among_one(self):
        for tree, more in ((((-1, -1),), (1, 1)), (((0, -1),), (2, 1)), (((1, -1), (-1, -1)), (3, 2))):
            self.assertIs(is_even(1, tree), True)
            self.assertIs(is_least(1, tree), False)
            self.assertEqual(unlike_depth(1, tree), 0)
            self.assertEqual(excess(1, tree), more)

    def test_least_trees(self):
        for many in range(1, 13):
            tree = least_tree(many)
            self.assertTrue(told_tree(many, tree))
            self.assertIs(is_least(many, tree), True)
            self.assertEqual(tree_mean(many, tree), mean(many))
            self.assertEqual(tree_shares(many, tree), ((1, many),) * many)
            self.assertIsNone(unlike_depth(many, tree))
            for depth in range(12):
                self.assertEqual(sum(tree_leaves(many, tree, depth)), leaves_at(many, depth))
        self.assertEqual(least_tree(1), ())

    def test_unlike_far_down(self):
        for copies in range(9):
            # A least tree among 3, so many times one behind the other; then a toss that tells nothing.
            tree = [pair for at in range(0, 3 * copies, 3) for pair in ((at + 1, at + 2), (-1, -2), (-3, at + 3))]
            at = len(tree)
            tree += [(at + 1, at + 1), (at + 2, at + 3), (-1, -2), (-3, at + 1)]
            self.assertTrue(told_tree(3, tuple(tree)))
            self.assertEqual(unlike_depth(3, tuple(tree)), 2 * copies + 2)
            self.assertEqual(excess(3, tuple(tree)), (1, 4 ** copies))
