"""The console, against the functions of the parts."""

import itertools
import random
import unittest

from serialhouse.console import Console
from serialhouse.drawing import draw_word, word_mean
from serialhouse.errors import InvalidCommand, NoName, NothingToUndo, NoWords, SerialError, TooFar, TooLong
from serialhouse.farcounts import count_left
from serialhouse.formats import Format
from serialhouse.growth import degree
from serialhouse.intoleads import barring_depth
from serialhouse.joining import behind, both, either, without
from serialhouse.leads import parting_depth
from serialhouse.limits import limits
from serialhouse.numbering import number_of, word_at
from serialhouse.ratios import fraction_text
from serialhouse.remainders import around
from serialhouse.rows import count
from serialhouse.rules import least_rule
from serialhouse.sames import first_unlike
from serialhouse.tosses import mean
from tests.helper import (
    AA, ALL, ANY, EMPTY, ENDA, EVEN, EVENS, LEFT, NOAA, NONE, ONES, OTHERS, RIGHT, SOME, letters_in, some_formats,
    some_tame_formats)

AB = Format(2, ((0, "a", 0), (0, "b", 1), (1, "b", 1)), (0, 1))
DOWN = Format(3, ((0, "a", 1), (1, "a", 2), (2, "a", 1), (2, "b", 1)), (0, 2))
FORMS = [NOAA, AA, ALL, EMPTY, ENDA, EVEN, EVENS, LEFT, NONE, ONES, OTHERS, RIGHT, SOME, AB, DOWN] + some_formats(
    8, 91, size=3) + some_tame_formats(5, 92, size=4)


def text_of(form):
    return str(form).replace("\n", ";")


def named(forms):
    """A console that keeps formats under the names a, b, c and so on."""
    console = Console()
    for name, form in zip("abcdefghijklmnopqrstuvwxyz", forms):
        console.run(f"keep {name} {text_of(form)}")
    return console


def shown(word):
    return word or "-"


class AskTest(unittest.TestCase):
    def test_examples(self):
        console = Console()
        for command, answer in (
                ("keep noaa format 2;move 0 a 1;move 0 b 0;move 1 b 0;ends 0 1", "ok"), ("count noaa 4", "8"),
                ("rule noaa", "1 2 | 1 1"), ("word noaa 4", "ba"), ("mean noaa 3", "18/5"), ("round noaa 2", "0 3"),
                ("growth noaa", "doubles"), ("toss noaa 2 10", "word bb 2")):
            self.assertEqual(console.run(command), answer)
        self.assertEqual(console.run(command="count noaa 0"), "1")

    def check(self, forms, ask, told):
        """That a question about each of some formats has the answer that is told."""
        console = named(forms)
        for name, form in zip("abcdefghijklmnopqrstuvwxyz", forms):
            for rest in ask:
                answer = told(form, *rest)
                self.assertEqual(console.run(" ".join([self.command, name] + list(rest))), answer, (str(form), rest))
                self.assertEqual(console.run(" ".join([self.command, name] + list(rest))), answer)

    def test_count(self):
        self.command = "count"
        self.check(FORMS, [(str(length),) for length in (0, 1, 2, 7, 120, 300)], lambda form, length: str(count(form, int(length))))

    def test_left(self):
        self.command = "left"
        ask = [(str(length), str(under)) for length in (0, 5, 10 ** 20, 10 ** 30) for under in (1, 2, 97, 10 ** 6)]
        self.check(FORMS, ask, lambda form, length, under: str(count_left(form, int(length), int(under))))

    def test_rule(self):
        self.command = "rule"
        self.check(FORMS, [()], lambda form: " ".join(
            [str(number) for number in least_rule(form)[0]] + ["|"] + [str(number) for number in least_rule(form)[1]]))
        console = named([NONE, EMPTY, behind(AB, AB)])
        self.assertEqual((console.run("rule a"), console.run("rule b")), ("|", "1 | 0"))
        self.assertIn(" -", console.run("rule c"))

    def test_word(self):
        def told(form, number):
            try:
                word = word_at(form, int(number))
            except TooLong:
                return "long"
            return "none" if word is None else shown(word)

        self.command = "word"
        self.check(FORMS, [(str(number),) for number in (0, 1, 2, 5, 30, 200, 201, 10 ** 30, 10 ** 60 - 1)], told)
        console = named([ONES, EMPTY, NONE, EVEN])
        self.assertEqual(console.run("word a 200"), "a" * 200)
        self.assertEqual([console.run(ask) for ask in ("word a 201", "word a 0", "word b 0", "word b 1", "word c 0", "word d 100")],
                         ["long", "-", "-", "none", "none", "a" * 200])

    def test_number(self):
        self.command = "number"
        words = ["", "a", "b", "aa", "ba", "xyz", "ab" * 60, "a" * 120]
        self.check(FORMS, [(shown(word),) for word in words], lambda form, word: str(
            number_of(form, word.strip("-"))) if form.has(word.strip("-")) else "none")

    def test_two(self):
        console = named(FORMS)
        for (one, mine), (other, yours) in itertools.product(list(zip("abcdefghijklmnopqrstuvwxyz", FORMS)), repeat=2):
            length = first_unlike(mine, yours)
            self.assertEqual(console.run(f"rows {one} {other}"), "same" if length is None else f"unlike {length}")
            depth = parting_depth(mine, yours)
            self.assertEqual(console.run(f"lead {one} {other}"), "yes" if depth is None else f"no {depth}")
            depth = barring_depth(mine, yours)
            self.assertEqual(console.run(f"into {one} {other}"), "yes" if depth is None else f"no {depth}")

    def test_toss(self):
        def told(form, length, tosses):
            try:
                drawn = draw_word(form, int(length), tosses.strip("-"))
            except NoWords:
                return "none"
            return " ".join(["word", shown(drawn[1]), str(drawn[2])] if drawn[0] == "drawn" else [str(part) for part in drawn])

        self.command = "toss"
        source = random.Random(93)
        ask = [(str(length), tosses) for length in (0, 1, 2, 3, 5, 120)
               for tosses in ["-", "0", "1", "10", "0110"] + ["".join(source.choice("01") for _ in range(400))]]
        self.check(FORMS, ask, told)
        console = named([NOAA])
        self.assertEqual([console.run(ask) for ask in ("toss a 0 -", "toss a 0 11", "toss a 3 -", "toss a 3 11")],
                         ["word - 0", "word - 0", "open 1 0", "open 4 3"])

    def test_mean(self):
        def told(form, length):
            many = count(form, int(length))
            if many == 0:
                return "none"
            return "many" if many > 300 else fraction_text(word_mean(form, int(length)))

        self.command = "mean"
        self.check(FORMS, [(str(length),) for length in (0, 1, 2, 5, 8, 9, 12, 120)], told)
        whole = Format(1, tuple((0, letter, 0) for letter in "ab"), (0,))
        few = either(either(behind(AA, EMPTY), ONES), Format(2, tuple((0, letter, 1) for letter in "abc"), (1,)))
        console = named([whole, few])
        self.assertEqual([console.run(f"mean a {length}") for length in (0, 8, 9)], ["0", "8", "many"])
        self.assertEqual(console.run("mean b 1"), fraction_text(mean(3)))

    def test_mean_of_three_hundred(self):
        # Words of one length: 300 of them, and one more.
        first = Format(2, tuple((0, letter, 1) for letter in "abcdefghijkl"), (1,))
        form = behind(first, Format(2, tuple((0, letter, 1) for letter in "abcdefghijklmnopqrstuvwxy"), (1,)))
        more = either(form, Format(3, ((0, "z", 1), (1, "z", 2)), (2,)))
        self.assertEqual((count(form, 2), count(more, 2)), (300, 301))
        console = named([form, more])
        self.assertEqual((console.run("mean a 2"), console.run("mean b 2")), (fraction_text(mean(300)), "many"))

    def test_round(self):
        def told(form, under):
            try:
                return " ".join(map(str, around(form, int(under))))
            except TooFar:
                return "far"

        self.command = "round"
        self.check(FORMS, [(str(under),) for under in (1, 2, 3, 10, 1000)], told)
        self.assertEqual(named([NOAA]).run("round a 1000"), "0 1500")
        self.assertEqual(named([NOAA]).run("round a 625"), "far")

    def test_growth(self):
        self.command = "growth"
        self.check(FORMS, [()], lambda form: {None: "doubles", -1: "ends"}.get(degree(form), f"power {degree(form)}"))
        self.assertEqual([named([form]).run("growth a") for form in (AB, EVEN, NONE)], ["power 1", "power 0", "ends"])

    def test_shares(self):
        for form in FORMS:
            console = named([form])
            for letters in ("a", "ab", "abc", "xyz", "abx"):
                if set(letters_in(form)) <= set(letters):
                    right = " ".join(map(fraction_text, limits(form, letters)))
                    self.assertEqual(console.run(f"shares a {letters}"), right)
                else:
                    self.assertRaises(InvalidCommand, console.run, f"shares a {letters}")
        self.assertEqual(named([EVEN]).run("shares a a"), "1 0")
        self.assertEqual(named([ENDA]).run("shares a ab"), "1/2")


class ChangeTest(unittest.TestCase):
    def test_joined(self):
        for one, other in zip(FORMS, FORMS[3:]):
            console = named([one, other])
            for command, joined in (("both", both), ("either", either), ("without", without)):
                self.assertEqual(console.run(f"{command} c a b"), "ok")
                right = joined(one, other)
                for length in range(6):
                    self.assertEqual(console.run(f"count c {length}"), str(count(right, length)))
                for number in range(8):
                    word = word_at(right, number)
                    self.assertEqual(console.run(f"word c {number}"), "none" if word is None else shown(word))

    def test_names_given_anew(self):
        console = named([NOAA, AA])
        self.assertEqual(console.run("without a a b"), "ok")
        self.assertEqual(console.run("keep b format 1;ends 0"), "ok")
        self.assertEqual(console.run("either b b b"), "ok")
        self.assertEqual((console.run("count a 2"), console.run("count b 0"), console.run("count b 2")), ("3", "1", "0"))
        for answer in ("1 0", "1 0", "0 1"):
            self.assertEqual(f"{console.run('count b 0')} {console.run('count b 2')}", answer)
            self.assertEqual(console.run("undo"), "ok")
        self.assertEqual((console.run("count a 2"), console.run("count b 2")), ("3", "1"))

    def test_undo_name_by_name(self):
        console = named([NOAA, AA])
        for command in ("either c a b", "drop a", "keep a format 1;ends", "drop b", "both a c c", "drop c"):
            self.assertEqual(console.run(command), "ok")
        steps = []
        while True:
            steps.append(tuple(self.kept(console, name) for name in "abc"))
            try:
                self.assertEqual(console.run("undo"), "ok")
            except NothingToUndo:
                break
        self.assertEqual(steps, [
            ("4", None, None), ("4", None, "4"), ("0", None, "4"), ("0", "1", "4"), (None, "1", "4"), ("3", "1", "4"),
            ("3", "1", None), ("3", None, None), (None, None, None)])
        self.assertEqual(console.run("keep a format 1;ends 0"), "ok")
        self.assertEqual(console.run("undo"), "ok")
        self.assertRaises(NothingToUndo, console.run, "undo")

    def kept(self, console, name):
        try:
            return console.run(f"count {name} 2")
        except NoName:
            return None

    def test_random_changes(self):
        source = random.Random(94)
        for _ in range(12):
            console, kept, past = Console(), {}, []
            for _ in range(40):
                names = [source.choice("abcd") for _ in range(3)]
                kind = source.choice(("keep", "keep", "both", "either", "without", "drop", "undo", "undo"))
                if kind == "undo":
                    if past:
                        kept = past.pop()
                        self.assertEqual(console.run("undo"), "ok")
                    else:
                        self.assertRaises(NothingToUndo, console.run, "undo")
                    continue
                needed = {"keep": [], "drop": names[:1]}.get(kind, names[1:])
                form = source.choice(FORMS[:12])
                command = " ".join({"keep": ["keep", names[0], text_of(form)], "drop": ["drop", names[0]]}.get(kind, [kind] + names))
                missing = [name for name in needed if name not in kept]
                if missing:
                    with self.assertRaises(NoName) as caught:
                        console.run(command)
                    self.assertEqual(caught.exception.name, missing[0])
                    continue
                self.assertEqual(console.run(command), "ok")
                past.append(dict(kept))
                if kind == "drop":
                    del kept[names[0]]
                else:
                    joined = {"both": both, "either": either, "without": without}.get(kind)
                    kept[names[0]] = joined(kept[names[1]], kept[names[2]]) if joined else form
                for name in "abcd":
                    right = None if name not in kept else str(count(kept[name], 2))
                    self.assertEqual(self.kept(console, name), right)

    def test_formats_are_kept_as_they_are(self):
        # Moves of states that are not useful count for the letters of shares.
        console = named([Format(2, ((0, "a", 0), (0, "c", 1)), (0,))])
        self.assertEqual(console.run("shares a ac"), "0")
        self.assertRaises(InvalidCommand, console.run, "shares a ab")
        console.run("either b a a")
        self.assertEqual(console.run("shares b a"), "1")

    def test_consoles_share_nothing(self):
        one, other = named([NOAA]), Console()
        self.assertRaises(NoName, other.run, "count a 1")
        self.assertRaises(NothingToUndo, other.run, "undo")
        self.assertEqual(one.run("count a 1"), "2")


class RefusedTest(unittest.TestCase):
    def setUp(self):
        self.console = named([NOAA, AA])

    def refused(self, command):
        """That a command is invalid, and nothing changes by it."""
        with self.assertRaises(InvalidCommand) as caught:
            self.console.run(command)
        self.assertEqual(vars(caught.exception), {})
        self.assertEqual((self.console.run("count a 2"), self.console.run("count b 2")), ("3", "1"))

    def test_any_values(self):
        for thing in ANY + (["count a 2"], ("count a 2",), b"count a 2", Console()):
            self.refused(thing)

    def test_forms(self):
        for command in (
                "", " ", "count", "count a", "count a 2 3", "count  a 2", " count a 2", "count a 2 ", "count a  2", "Count a 2",
                "count a 2\n", "count a\n2", "count\ta 2", "undo a", "undo ", " undo", "drop", "drop a b", "drop ", "keep", "keep a",
                "keep a ", "both a b", "both a b a a", "either a", "without a b ", "rule", "rule a b", "word a", "word a b", "number a",
                "number a b a", "rows a", "rows a b b", "lead a", "into a b c", "toss a 2", "toss a 2 1 0", "mean a", "mean a 2 3",
                "round a", "round a 2 3", "growth", "growth a b", "shares a", "shares", "shares a a b", "left a 2", "left a 2 3 4",
                "list", "help", "counts a 2", "count,a,2"):
            self.refused(command)

    def test_names(self):
        for name in ("A", "abcdefghi", "", "a1", "-", "a-b", "ab_", "1"):
            for command in (f"count {name} 2", f"keep {name} format 1;ends", f"both {name} a b", f"both a {name} b", f"both a a {name}",
                            f"drop {name}", f"rows a {name}", f"rows {name} a", f"growth {name}", f"shares {name} ab", f"word {name} 1"):
                self.refused(command)
        self.assertEqual(self.console.run("keep abcdefgh format 1;ends"), "ok")
        self.assertEqual(self.console.run("count abcdefgh 0"), "0")

    def test_texts(self):
        for text in ("format 1", "format 1;", "format 1;ends;", "format 1;ends 1", "format 0;ends", "sheet 1;ends", "format 1; ends",
                     "format 2;move 0 a 0;move 0 a 1;ends", "format 1;ends ", "format 1,ends", "format 01;ends", "format 1;move 0 A 0;ends",
                     "format 1\nends", ";format 1;ends", "format  1;ends", "format 2;move 1 a 0;move 0 a 0;ends"):
            self.refused(f"keep a {text}")
        self.assertEqual(self.console.run("keep a format 3;move 0 a 2;ends 2"), "ok")
        self.assertEqual(self.console.run("keep a format 1;ends"), "ok")

    def test_numbers(self):
        for command in ("count a {}", "word a {}", "left a {} 7", "left a 7 {}", "toss a {} 0", "mean a {}", "round a {}"):
            for number in ("-1", "+1", "01", "00", "1.0", "x", "1_000", "", "0x1", "1e3", "-0", "1" * 61, "0" * 61, "--", "-"):
                self.refused(command.format(number))
        for right, beyond in (("count a 300", "count a 301"), (f"left a {10 ** 30} 7", f"left a {10 ** 30 + 1} 7"),
                              (f"left a 7 {10 ** 6}", f"left a 7 {10 ** 6 + 1}"), ("left a 7 1", "left a 7 0"),
                              ("toss a 120 0", "toss a 121 0"), ("mean a 120", "mean a 121"), ("round a 1000", "round a 1001"),
                              ("round a 1", "round a 0"), (f"word a {10 ** 60 - 1}", f"word a {10 ** 60}"), ("count a 0", "count a 1000")):
            self.assertIsInstance(self.console.run(right), str)
            self.refused(beyond)

    def test_words(self):
        self.assertEqual(self.console.run(f"number a {'b' * 120}"), str(number_of(NOAA, "b" * 120)))
        for word in ("b" * 121, "", "--", "A", "a1", "0", "-a"):
            self.refused(f"number a {word}")

    def test_tosses(self):
        self.assertEqual(self.console.run(f"toss a 2 {'10' * 200}"), "word bb 2")
        for tosses in ("0" * 401, "", "2", "01a", "--", "-0", "o"):
            self.refused(f"toss a 2 {tosses}")

    def test_no_name(self):
        for command, name in (
                ("count x 2", "x"), ("drop x", "x"), ("both x y z", "y"), ("both x a z", "z"), ("either x y a", "y"),
                ("without c c a", "c"), ("rows x y", "x"), ("rows a y", "y"), ("lead y a", "y"), ("into a y", "y"), ("rule x", "x"),
                ("word x 1", "x"), ("number x -", "x"), ("toss x 1 -", "x"), ("mean x 1", "x"), ("round x 2", "x"), ("growth x", "x"),
                ("shares x ab", "x"), ("left x 1 1", "x"), ("shares x ", "x"), ("shares x zyx", "x"), ("shares x A;", "x")):
            with self.assertRaises(NoName) as caught:
                self.console.run(command)
            self.assertEqual(caught.exception.name, name)
        # What has not the form of a command is refused ahead of that.
        for command in ("count x 301", "count x -1", "shares x", "shares x a b", "round x 0", "number x A", "toss x 1 2", "both x y",
                        "shares x a\n"):
            self.refused(command)

    def test_letters(self):
        for letters in ("", "a", "b", "ba", "aab", "abcd", "AB", "ab;", "a,b", "abb", "0", "-"):
            self.refused(f"shares a {letters}")
        self.assertEqual(self.console.run("shares a ab"), "0")
        self.assertEqual(self.console.run("shares a abz"), "0")

    def test_refused_changes_nothing(self):
        for command in ("keep a format 1", "both a x b", "drop x", "either b a x", "keep A format 1;ends"):
            self.assertRaises(SerialError, self.console.run, command)
        self.assertEqual([self.console.run("undo"), self.console.run("undo")], ["ok", "ok"])
        self.assertRaises(NothingToUndo, self.console.run, "undo")
        with self.assertRaises(NoName):
            self.console.run("count a 2")

    def test_asking_changes_nothing(self):
        for command in ("count a 2", "left a 2 3", "rule a", "word a 2", "number a ba", "rows a b", "lead a b", "into a b", "toss a 2 1",
                        "mean a 2", "round a 2", "growth a", "shares a ab"):
            first = self.console.run(command)
            self.assertEqual(self.console.run(command), first)
        self.assertEqual([self.console.run("undo"), self.console.run("undo")], ["ok", "ok"])
        self.assertRaises(NothingToUndo, self.console.run, "undo")
