"""Findings: each sort that holds, the same with a part otherwise, and any values."""

import copy
import unittest
from fractions import Fraction

from serialhouse.codes import Code
from serialhouse.comparing import first_apart
from serialhouse.crossings import judge_never_fewer, never_fewer_holds
from serialhouse.drawfindings import draw_finding_holds
from serialhouse.errors import BadCode, BadText, Doubles, TooFar
from serialhouse.findings import finding_holds
from serialhouse.formats import Format
from serialhouse.formfindings import form_finding_holds
from serialhouse.growth import degree, judge_growth
from serialhouse.growthchecks import growth_holds
from serialhouse.growthfindings import growth_finding_holds
from serialhouse.intoleads import into_holds, judge_into
from serialhouse.joining import behind, either
from serialhouse.leads import judge_lead, lead_holds
from serialhouse.leadtables import is_table, led
from serialhouse.lengths import Lengths
from serialhouse.limits import limits_hold, limits_paper, thin_holds, thin_paper
from serialhouse.numbering import length_at, word_at
from serialhouse.pieces import pieces
from serialhouse.readingchecks import readings_hold
from serialhouse.readings import judge_readings
from serialhouse.remainders import around, empty_lengths, judge_remainders, lengths_with, remainders_hold, round_holds
from serialhouse.rests import code_holds, judge_code, judge_look, look_holds
from serialhouse.rows import count, counts
from serialhouse.rules import is_rule, least_rule
from serialhouse.sames import first_unlike
from serialhouse.shares import share_at
from serialhouse.sheets import Sheet
from serialhouse.tosses import mean
from serialhouse.totals import joins_for, joins_hold
from serialhouse.trees import is_least, is_tree, least_tree, tree_holds, tree_paper
from tests.helper import (
    AA, ALL, ANY, CODES, EMPTY, ENDA, EVEN, EVENS, LAST, LEFT, NOAA, NONE, ONES, RIGHT, SOME, TWICE, changed,
    is_int, letters_in, row_of, some_formats, some_sheets, some_tame_formats, words_of)

FORMS = [NOAA, NONE, EMPTY, ONES, EVEN, AA, LEFT, RIGHT, ALL, EVENS, SOME, ENDA] + some_formats(
    12, 81, size=3) + some_tame_formats(8, 82, size=4)
PAIRS = list(zip(FORMS, FORMS[1:] + FORMS[:1])) + list(zip(FORMS, FORMS))
SHEETS = [TWICE, LAST] + some_sheets(10, 83)
TREES = [(1, ()), (2, ((1, 1), (-1, -2))), (2, ((-1, 1), (-2, 0))), (2, ((0, 0),)), (3, least_tree(3)), (5, least_tree(5)),
         (6, ((-1, 1), (-2, 1))), (4, ((1, 2), (-1, -2), (-3, -4)))]


def form_findings():
    """Findings of the parts 1 to 4 that hold."""
    told = []
    for form in FORMS:
        text = str(form)
        words = words_of(form, "ab", 3)
        told += [("word", text, word) for word in words[:2]]
        told += [("no word", text, word) for word in ("aa", "c", "ba", "") if word not in words][:2]
        told += [("count", text, length, counts(form, 7)[length]) for length in (0, 2, 6)]
        told.append(("rule", text) + least_rule(form))
        told += [("number", text, word, number) for number, word in enumerate(words[:3])]
        told += [("length at", text, number, len(word)) for number, word in enumerate(words[:3])]
    for sheet in SHEETS:
        paper = judge_readings(sheet)
        told.append(({"one": "one reading", "two": "two readings"}[paper[0]], str(sheet)) + paper[1:])
    for one, other in PAIRS:
        texts = str(one), str(other)
        word = first_apart(one, other)
        told.append(("same words",) + texts if word is None else ("apart",) + texts + (word,))
        length = first_unlike(one, other)
        told.append(("same rows",) + texts if length is None else ("unlike rows",) + texts + (length,))
        for paper in (judge_lead(one, other), judge_into(one, other)):
            told.append(paper[:1] + texts + paper[1:])
            if paper[0] in ("lead", "into") and one.useful:
                word = word_at(one, 2) or word_at(one, 0)
                told.append(("led",) + texts + (paper[1], word, led(one, other, paper[1], word)))
    return told


def draw_findings():
    """Findings of the parts 5 and 6 that hold."""
    told = [("mean", many) + mean(many) for many in (1, 2, 3, 4, 5, 9, 12, 300)]
    told += [("tree", many, tree, tree_paper(many, tree)) for many, tree in TREES if tree]
    told += [("least", many, tree) for many, tree in TREES if is_least(many, tree)]
    for code in CODES:
        told_code = code.letters, code.words
        paper = judge_code(code)
        told.append(({"one": "one way", "two": "two ways"}[paper[0]],) + told_code + paper[1:])
        if paper[0] == "one":
            paper = judge_look(code)
            told.append(("look",) + told_code + paper[1:] if paper[0] == "within" else ("no look",) + told_code + (paper[1:],))
    for letters in (2, 3):
        for weights in ((5, 1, 1, 3), (1, 1, 1, 1), (0, 0, 0), (7,), (3, 1, 2, 2, 5)):
            told.append(("joins", letters, weights, joins_for(letters, weights)))
    return told


def growth_findings():
    """Findings of the parts 7 to 9 that hold."""
    told = []
    for form in FORMS:
        text = str(form)
        for under in (1, 2, 3):
            told.append(("round", text, under) + around(form, under))
            told += [("lengths", text, under, rest, lot_of(lengths_with(form, under, rest))) for rest in (0, under - 1)]
        told.append(("empty lengths", text, lot_of(empty_lengths(form))))
        told.append(("growth", text, judge_growth(form)))
        if degree(form) is not None:
            told.append(("pieces", text) + pieces(form))
        for letters in {letters_in(form) or "a", "ab"}:
            told += [("share", text, letters, length) + share_at(form, letters, length) for length in (0, 3)]
            told.append(("limits", text, letters, limits_paper(form, letters)))
            paper = thin_paper(form, letters)
            told.append((paper[0], text, letters) + paper[1:])
    for one, other in PAIRS:
        texts = str(one), str(other)
        for under in (1, 2):
            paper = judge_remainders(one, other, under)
            told.append(("left " + paper[0],) + texts + ((under,) if paper[0] == "alike" else (under, paper[1])))
        if degree(one) is not None and degree(other) is not None:
            told.append(("never fewer",) + texts + (judge_never_fewer(one, other),))
    return told


def lot_of(lot):
    return lot.few, lot.first, lot.around, lot.rests


def read(text, made):
    try:
        return made.read(text)
    except BadText:
        return None


def code_of(letters, words):
    try:
        return Code(letters, words)
    except BadCode:
        return None


def is_same_value(thing, told):
    if type(told) is not tuple:
        return type(thing) is type(told) and thing == told
    return type(thing) is tuple and len(thing) == len(told) and all(map(is_same_value, thing, told))


def led_by_hand(table, word):
    letters, number = "", 0
    for letter in word:
        step = next(step for step in table[number][2] if step[0] == letter)
        letters, number = letters + step[1], step[2]
    return letters


def number_by_hand(form, word):
    return words_of(form, letters_in(form), len(word)).index(word)


def is_right_of_forms(thing):
    """What the document says of findings of the parts 1 to 4."""
    if type(thing) is not tuple or not thing or type(thing[0]) is not str:
        return False
    kind, parts = thing[0], thing[1:]
    if kind in ("one reading", "two readings"):
        sheet = read(parts[0], Sheet) if parts else None
        many = 2 if kind == "one reading" else 4
        return sheet is not None and len(parts) == many and readings_hold(sheet, (kind[:3],) + parts[1:])
    many = {"word": 2, "no word": 2, "same words": 2, "apart": 3, "count": 3, "rule": 3, "same rows": 2, "unlike rows": 3,
            "number": 3, "length at": 3, "lead": 3, "parted": 3, "into": 3, "barred": 3, "led": 5}.get(kind)
    if many != len(parts):
        return False
    form = read(parts[0], Format)
    if form is None:
        return False
    if kind in ("word", "no word"):
        return type(parts[1]) is str and parts[1] == parts[1].lower() and (parts[1].isalpha() or parts[1] == "") and (
            form.has(parts[1]) == (kind == "word"))
    if kind == "count":
        return is_int(parts[1]) and parts[1] <= 300 and is_same_value(parts[2], counts(form, parts[1] + 1)[-1])
    if kind == "rule":
        return is_rule(parts[1:]) and row_of(parts[1:], 60) == list(counts(form, 60))
    if kind == "number":
        return form.has(parts[1]) and is_same_value(parts[2], number_by_hand(form, parts[1]))
    if kind == "length at":
        words = words_of(form, letters_in(form), 6)
        return is_int(parts[1]) and is_int(parts[2]) and parts[1] < len(words) and len(words[parts[1]]) == parts[2]
    other = read(parts[1], Format)
    return other is not None and is_right_of_two(kind, form, other, parts[2:])


def is_right_of_two(kind, one, other, parts):
    if kind == "same words":
        return first_apart(one, other) is None
    if kind == "apart":
        return type(parts[0]) is str and one.has(parts[0]) != other.has(parts[0])
    if kind == "same rows":
        return counts(one, 80) == counts(other, 80)
    if kind == "unlike rows":
        return is_int(parts[0]) and parts[0] <= 300 and counts(one, parts[0] + 1)[-1] != counts(other, parts[0] + 1)[-1]
    if kind in ("lead", "parted"):
        return lead_holds(one, other, (kind,) + parts)
    if kind in ("into", "barred"):
        return into_holds(one, other, (kind,) + parts)
    return is_table(one, other, parts[0]) and one.has(parts[1]) and is_same_value(parts[2], led_by_hand(*parts[:2]))


def is_right_of_draws(thing):
    """What the document says of findings of the parts 5 and 6."""
    if type(thing) is not tuple or not thing or type(thing[0]) is not str:
        return False
    kind, parts = thing[0], thing[1:]
    many = {"mean": 3, "tree": 3, "least": 2, "one way": 3, "two ways": 4, "look": 4, "no look": 3, "joins": 3}.get(kind)
    if many != len(parts):
        return False
    if kind in ("mean", "tree", "least"):
        if not is_int(parts[0], 1):
            return False
        if kind == "mean":
            return parts[0] <= 300 and is_same_value(parts[1:], mean(parts[0]))
        if not is_tree(parts[0], parts[1]):
            return False
        return tree_holds(*parts) if kind == "tree" else is_least(*parts)
    if kind == "joins":
        return is_int(parts[0]) and parts[0] in (2, 3) and type(parts[1]) is tuple and len(parts[1]) > 0 and all(
            is_int(weight) for weight in parts[1]) and joins_hold(*parts)
    code = code_of(*parts[:2])
    if code is None:
        return False
    if kind == "no look":
        return type(parts[2]) is tuple and len(parts[2]) == 4 and look_holds(code, ("endless",) + parts[2])
    if kind == "look":
        return look_holds(code, ("within",) + parts[2:])
    return code_holds(code, ({"one way": "one", "two ways": "two"}[kind],) + parts[2:])


def are_letters_of(form, thing):
    return type(thing) is str and 1 <= len(thing) <= 3 and thing.isalpha() and thing.islower() and (
        sorted(set(thing)) == list(thing) and set(letters_in(form)) <= set(thing))


def is_right_of_growth(thing):
    """What the document says of findings of the parts 7 to 9."""
    if type(thing) is not tuple or not thing or type(thing[0]) is not str:
        return False
    kind, parts = thing[0], thing[1:]
    many = {"round": 4, "lengths": 4, "empty lengths": 2, "left alike": 3, "left apart": 4, "growth": 2, "never fewer": 3,
            "pieces": 3, "share": 5, "limits": 3, "thin": 3, "thick": 4}.get(kind)
    form = read(parts[0], Format) if many == len(parts) else None
    if form is None:
        return False
    if kind in ("round", "lengths"):
        if not is_int(parts[1], 1):
            return False
        return round_holds(form, parts[1], (kind,) + parts[2:]) if kind == "round" else is_right_lot(form, *parts[1:])
    if kind == "empty lengths":
        return is_same_value(parts[1], lot_of(lot_by_hand(counts(form, 200), 0)))
    if kind in ("left alike", "left apart", "never fewer"):
        other = read(parts[1], Format)
        if other is None or kind != "never fewer" and not is_int(parts[2], 1):
            return False
        if kind == "never fewer":
            return never_fewer_holds(form, other, parts[2])
        if kind == "left apart":
            return remainders_hold(form, other, parts[2], ("apart", parts[3]))
        return not any((one - two) % parts[2] for one, two in zip(counts(form, 60), counts(other, 60)))
    if kind == "growth":
        return growth_holds(form, parts[1])
    if kind == "pieces":
        try:
            return is_same_value(parts[1:], pieces(form))
        except Doubles:
            return False
    return are_letters_of(form, parts[1]) and is_right_share(kind, form, parts[1], parts[2:])


def lot_by_hand(row, rest):
    """The lot of the lengths with a count, of a small format: all comes round within few lengths."""
    for turn in range(1, 60):
        for first in range(60):
            if all(row[at] == row[at + turn] if rest else (row[at] == 0) == (row[at + turn] == 0)
                   for at in range(first, len(row) - turn)):
                few = tuple(at for at in range(first) if row[at] == 0)
                return Lengths(few, first, turn, tuple(sorted(at % turn for at in range(first, first + turn) if row[at] == 0)))
    return None


def is_right_lot(form, under, rest, lot):
    if not is_int(rest) or rest >= under:
        return False
    try:
        pair = around(form, under)
    except TooFar:
        return False
    row = [(number - rest) % under for number in counts(form, 2 * sum(pair) + 60)]
    told = [at for at in range(sum(pair)) if row[at] == 0]
    right = Lengths(tuple(at for at in told if at < pair[0]), pair[0], pair[1],
                    tuple(sorted(at % pair[1] for at in told if at >= pair[0])))
    return is_same_value(lot, lot_of(right))


def is_right_share(kind, form, letters, parts):
    if kind == "share":
        if not is_int(parts[0]) or parts[0] > 400:
            return False
        share = Fraction(counts(form, parts[0] + 1)[-1], len(letters) ** parts[0])
        return is_same_value(parts[1:], (share.numerator, share.denominator))
    if kind == "limits":
        return limits_hold(form, letters, parts[0])
    return thin_holds(form, letters, (kind,) + parts)


LOTS = (
    (form_findings(), form_finding_holds, is_right_of_forms), (draw_findings(), draw_finding_holds, is_right_of_draws),
    (growth_findings(), growth_finding_holds, is_right_of_growth))
SORTS = (
    {"word", "no word", "same words", "apart", "one reading", "two readings", "count", "rule", "same rows", "unlike rows",
     "number", "length at", "lead", "parted", "into", "barred", "led"},
    {"mean", "tree", "least", "one way", "two ways", "look", "no look", "joins"},
    {"round", "lengths", "empty lengths", "left alike", "left apart", "growth", "never fewer", "pieces", "share", "limits",
     "thin", "thick"})
N, A = str(NOAA), str(AA)


class HoldingTest(unittest.TestCase):
    def test_each_sort(self):
        for (told, _, _), sorts in zip(LOTS, SORTS):
            self.assertEqual({thing[0] for thing in told}, sorts)

    def test_what_holds(self):
        for told, holds, is_right in LOTS:
            for thing in told:
                before = copy.deepcopy(thing)
                self.assertIs(is_right(thing), True, thing)
                self.assertIs(holds(thing), True, thing)
                self.assertIs(finding_holds(thing=thing), True)
                self.assertIs(holds(thing=thing), True)
                self.assertEqual(thing, before)

    def test_none_lets_those_of_others(self):
        for told, holds, _ in LOTS:
            for _, other, _ in LOTS:
                if other is not holds:
                    for thing in told:
                        self.assertIs(other(thing), False)

    def test_any_values(self):
        for thing in ANY + (("word",), ("word", N), ("mean",), ("mean", 2), ("growth",), (["word"], N, "a"), ("Word", N, "a"),
                            (None, N, "a"), ((), N, "a"), ("", N, "a"), ("round", N), ("same words", N), ["word", N, "a"]):
            for _, holds, _ in LOTS:
                self.assertIs(holds(thing), False)
            self.assertIs(finding_holds(thing), False)

    def test_changed(self):
        for told, holds, is_right in LOTS:
            seen = set()
            for number, thing in enumerate(told[::2]):
                for other in changed(thing, number, 14):
                    if self.is_beyond(other):
                        continue
                    right = is_right(other)
                    self.assertIs(holds(other), right, other)
                    self.assertIs(finding_holds(other), right)
                    if other != thing:
                        seen.add((other[0], right) if right else right)
            self.assertGreater(len(seen), 3)

    def is_beyond(self, thing):
        """Whether a word or a number is more than the checks here go through one by one."""
        if isinstance(thing, tuple):
            return any(self.is_beyond(part) for part in thing)
        if isinstance(thing, str):
            return len(thing) > 200 or thing.startswith("format") and self.many_states(thing) > 9
        return type(thing) is int and abs(thing) > 400

    def many_states(self, text):
        figures = text.split("\n")[0][7:]
        return int(figures) if figures.isdigit() else 0

    def test_other_kinds_in_each_place(self):
        for told, holds, _ in LOTS:
            firsts = {}
            for thing in told:
                firsts.setdefault(thing[0], thing)
            for thing in firsts.values():
                self.assertIs(holds(list(thing)), False)
                self.assertIs(holds(thing + (0,)), False)
                self.assertIs(holds(thing[:-1]), False)
                for place in range(1, len(thing)):
                    for other in (None, [thing[place]], {}, NOAA, -1, "A", b"a", ("x",)):
                        self.assertIs(holds(thing[:place] + (other,) + thing[place + 1:]), False, (thing, place, other))


class PlainTest(unittest.TestCase):
    def check(self, right, *thing):
        self.assertIs(finding_holds(thing), right, thing)

    def test_example(self):
        self.check(False, "mean", 4, 4, 2)
        self.check(True, "mean", 4, 2, 1)

    def test_words(self):
        self.check(True, "word", N, "abba")
        self.check(False, "word", N, "aa")
        self.check(True, "no word", N, "aa")
        self.check(True, "no word", N, "xyz")
        self.check(False, "no word", N, "AA")
        self.check(False, "no word", N, 0)
        self.check(False, "no word", N, None)
        self.check(False, "no word", N, "a\n")
        self.check(True, "apart", N, A, "aa")
        self.check(True, "apart", N, A, "")
        self.check(False, "apart", N, A, "aaa")
        self.check(False, "apart", N, A, True)
        self.check(True, "same words", N, N)
        self.check(False, "same words", N, A)

    def test_texts(self):
        for text in (NOAA, str(NOAA.sheet), N + " ", N + "\n", N.replace("\n", ";"), "", None):
            self.check(False, "word", text, "a")
            self.check(False, "same words", N, text)
        self.check(True, "one reading", str(LAST), ((0, 1),))
        self.check(False, "one reading", str(LAST).replace("sheet", "format"), ((0, 1),))
        self.check(True, "two readings", str(TWICE), "aa", (0, 0, 1), (0, 1, 1))
        self.check(False, "two readings", str(TWICE), "aa", (0, 0, 1), (0, 0, 1))

    def test_counts(self):
        self.check(True, "count", N, 300, count(NOAA, 300))
        self.check(False, "count", N, 301, count(NOAA, 301))
        self.check(False, "count", N, 10 ** 59, 1)
        self.check(False, "count", str(ONES), 3, True)
        self.check(False, "count", str(ONES), True, 1)
        self.check(True, "unlike rows", N, A, 300)
        self.check(False, "unlike rows", N, A, 301)
        self.check(True, "rule", N, (1, 2, 3), (2, 0, -1))
        self.check(False, "rule", N, (1, 2, 3), (2, 0))

    def test_numbers(self):
        self.check(True, "number", N, "ba", 4)
        self.check(False, "number", N, "ba", 5)
        self.check(False, "number", N, "aa", 3)
        self.check(False, "number", N, "a", True)
        self.check(True, "length at", N, 10 ** 30, 142)
        self.check(True, "length at", str(ONES), 10 ** 59, 10 ** 59)
        self.check(False, "length at", N, -1, 0)
        self.check(False, "length at", A, 1, 2)
        self.check(False, "length at", A, 1, None)
        self.check(False, "length at", N, True, 1)
        self.check(False, "length at", N, 1, True)
        self.assertIsNone(length_at(AA, 1))

    def test_leads(self):
        table = judge_lead(NOAA, NOAA)[1]
        self.check(True, "led", N, N, table, "abb", "abb")
        self.check(False, "led", N, N, table, "aa", "aa")
        self.check(False, "led", N, N, table, "abb", "abbb")
        self.check(False, "led", N, A, table, "abb", "abb")
        self.check(False, "led", N, N, table, None, None)
        rounds = (((0, 0, 1), (0, 0, 0, 1)), ((0, 1, 2), (1, 0, 0, 2)))
        self.check(True, "parted", str(LEFT), str(RIGHT), rounds)
        self.check(False, "lead", str(LEFT), str(RIGHT), rounds)
        self.check(False, "barred", str(LEFT), str(RIGHT), rounds)

    def test_draws(self):
        self.check(True, "mean", 300, *self.mean_of(300))
        for many in (0, -1, True, 10 ** 59, None, "4"):
            self.check(False, "mean", many, 0, 1)
        self.check(True, "mean", 1, 0, 1)
        self.check(False, "mean", 1, False, True)
        self.check(True, "tree", 2, ((0, 0),), ("endless", ""))
        self.check(True, "tree", 10 ** 59, ((0, 0),), ("endless", ""))
        self.check(False, "tree", 0, ((0, 0),), ("endless", ""))
        self.check(False, "tree", True, ((0, 0),), ("endless", ""))
        self.check(False, "tree", 1, (), ("ends", (), ()))
        self.check(True, "least", 1, ())
        self.check(False, "least", True, ())
        self.check(False, "least", 2, ())
        self.check(True, "least", 2, ((-1, -2),))
        self.check(False, "least", 10 ** 59, ((-1, -2),))
        self.check(False, "least", 1, ((-1, -1),))
        self.check(False, "least", 2, ((-1, -1),))

    def mean_of(self, many):
        """The mean by its sum, going on until open places come round: 300 is 4 * 75, and 75 has the round 20."""
        first, places = 2, 20
        opens = [2 ** depth % many for depth in range(first + places)]
        self.assertEqual(2 ** (first + places) % many, opens[first])
        top = sum(number * 2 ** (first - depth) for depth, number in enumerate(opens[:first])) * (2 ** places - 1)
        top += sum(number * 2 ** (places - at) for at, number in enumerate(opens[first:]))
        bottom = 2 ** first * (2 ** places - 1)
        share = Fraction(top, bottom)
        return share.numerator, share.denominator

    def test_codes(self):
        self.check(True, "one way", "ab", ("a", "ab", "bb"), ("b",))
        self.check(False, "one way", "ba", ("a", "ab", "bb"), ("b",))
        self.check(False, "one way", "ab", ("a", "ab", "ab"), ("b",))
        self.check(True, "two ways", "ab", ("a", "ab", "ba"), (0, 2), (1, 0))
        self.check(True, "look", "ab", ("a", "aab"), 2, (("ab", 1), ("b", 0)))
        self.check(True, "look", "ab", ("a", "aab"), 9, (("ab", 1), ("b", 0)))
        self.check(False, "look", "ab", ("a", "aab"), 1, (("ab", 1), ("b", 0)))
        self.check(True, "no look", "ab", ("a", "ab", "bb"), ((0,), (1,), (2,), (2,)))
        self.check(False, "no look", "ab", ("a", "ab", "bb"), ((0,), (1,), (2,)))
        self.check(False, "no look", "ab", ("a", "ab", "bb"), [(0,), (1,), (2,), (2,)])
        self.check(False, "no look", "ab", ("a", "ab", "bb"), (0,), (1,), (2,), (2,))
        self.check(True, "joins", 2, (5, 1, 1, 3), ((1, 2), (3, 4), (0, 5)))
        for letters, weights in ((3, (5, 1, 1, 3)), (1, (5, 1, 1, 3)), (True, (5, 1, 1, 3)), (2, [5, 1, 1, 3]), (2, (5, 1, True, 3)),
                                 (2, (5, 1, -1, 3)), (4, (5, 1, 1, 3))):
            self.check(False, "joins", letters, weights, ((1, 2), (3, 4), (0, 5)))
        self.check(False, "joins", 2, (), ())
        self.check(True, "joins", 2, (0,), ())

    def test_remainders(self):
        self.check(True, "round", N, 2, 5, 3 * 10 ** 20)
        self.check(False, "round", N, 2, 5, 3 * 10 ** 20 + 1)
        for under in (0, -2, True, None, "2"):
            self.check(False, "round", N, under, 0, 3)
            self.check(False, "left alike", N, N, under)
            self.check(False, "left apart", N, A, under, 2)
            self.check(False, "lengths", N, under, 0, ((), 0, 3, (1,)))
        self.check(True, "lengths", N, 2, 0, ((), 0, 3, (1,)))
        for lot in (((), 0, 6, (1, 4)), ((1,), 2, 3, (1,)), ((), 0, 3, (2,)), ((), False, 3, (1,)), [(), 0, 3, (1,)], ((), 0, 3),
                    ((), 0, 3, [1])):
            self.check(False, "lengths", N, 2, 0, lot)
        for rest in (2, -1, False, None, 3):
            self.check(False, "lengths", N, 2, rest, ((), 0, 3, (1,)))
        self.check(True, "lengths", N, 8, 4, ((), 0, 1, ()))
        # Remainders of this one come round only far on: no lot holds.
        far = Format(4, ((0, "a", 1), (0, "b", 0), (0, "c", 2), (1, "b", 3), (2, "a", 0), (3, "a", 0), (3, "b", 2)), (0,))
        self.check(False, "lengths", str(far), 997, 0, ((), 0, 1, ()))
        self.check(True, "empty lengths", str(EVEN), ((), 0, 2, (1,)))
        self.check(False, "empty lengths", str(EVEN), ((), 0, 2, (0,)))
        self.check(True, "left alike", N, A, 1)
        self.check(False, "left alike", N, A, 2)
        self.check(True, "left apart", N, A, 2, 3 * 10 ** 29)
        self.check(False, "left apart", N, A, 2, 3 * 10 ** 29 + 1)

    def test_growth(self):
        ab = str(Format(2, ((0, "a", 0), (0, "b", 1), (1, "b", 1)), (0, 1)))
        self.check(True, "growth", N, ("doubles", "", "abb", "bab", ""))
        self.check(True, "growth", ab, ("power", 1, ((0, 2, 0), (1, 1, 0)), ("", "a", "b", "b", "")))
        self.check(False, "growth", ab, ("doubles", "", "abb", "bab", ""))
        self.check(True, "never fewer", ab, str(EVEN), ("from", 0, ((0, (0, 2)), (1, (2, 2)))))
        self.check(True, "never fewer", str(EVEN), ab, ("again", 1, (-2, -2)))
        self.check(False, "never fewer", N, ab, ("from", 0, ((0, (0, 2)),)))
        self.check(True, "pieces", ab, 0, (((1, 1), (1, 1)),))
        self.check(False, "pieces", ab, 1, (((1, 1), (1, 1)),))
        self.check(False, "pieces", ab, False, (((1, 1), (1, 1)),))
        self.check(False, "pieces", ab, 0, (((1, 1), (2, 2)),))
        self.check(False, "pieces", N, 0, (((1, 1), (1, 1)),))

    def test_shares(self):
        self.check(True, "share", N, "ab", 3, 5, 8)
        self.check(True, "share", N, "abz", 3, 5, 27)
        for letters in ("a", "ba", "aab", "", "abcd", "ABa", ("a", "b"), None):
            self.check(False, "share", N, letters, 3, 5, 8)
            self.check(False, "limits", N, letters, ("limits", (), (), ()))
            self.check(False, "thin", N, letters, ("aa", "a"))
        self.check(True, "limits", N, "ab", ("limits", (), (), ()))
        self.check(True, "thin", N, "ab", ("aa", "a"))
        self.check(False, "thick", N, "ab", (0, 1), 0)
        self.check(True, "thick", str(EVEN), "a", (0, 1), 0)
        self.check(False, "share", N, "ab", 3, 10, 16)
        self.check(False, "share", N, "ab", True, 1, 1)
        self.check(False, "share", N, "ab", 10 ** 59, 0, 1)
        self.check(False, "share", str(ONES), "a", 3, True, 1)

    def test_texts_of_returned_formats(self):
        form = behind(either(NOAA, EVEN), either(behind(AA, LEFT), ALL))
        self.check(True, "count", str(form), 12, count(form, 12))
        self.check(True, "same words", str(form), str(either(form, NONE)))

    def test_sizes_beyond_all_limits(self):
        text = "format 1" + "0" * 40 + "\nmove 0 a 0\nends 0"
        for thing in (("count", text, 3, 1), ("word", text, "a"), ("growth", text, ("ends", ())), ("share", text, "a", 1, 1, 1),
                      ("one reading", text.replace("format", "sheet"), ())):
            self.assertIn(finding_holds(thing), (True, False))
