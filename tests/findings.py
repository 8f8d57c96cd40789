"""Findings that hold, of each sort, and what the document says of any value: for the tests of findings."""

from fractions import Fraction

from serialhouse.codes import Code
from serialhouse.comparing import first_apart
from serialhouse.crossings import judge_never_fewer, never_fewer_holds
from serialhouse.errors import BadCode, BadText, Doubles, TooFar
from serialhouse.formats import Format
from serialhouse.growth import degree, judge_growth
from serialhouse.growthchecks import growth_holds
from serialhouse.intoleads import into_holds, judge_into
from serialhouse.leads import judge_lead, lead_holds
from serialhouse.leadtables import is_table, led
from serialhouse.lengths import Lengths
from serialhouse.limits import limits_hold, limits_paper, thin_holds, thin_paper
from serialhouse.numbering import word_at
from serialhouse.pieces import pieces
from serialhouse.readingchecks import readings_hold
from serialhouse.readings import judge_readings
from serialhouse.remainders import (
    around, empty_lengths, judge_remainders, lengths_with, remainders_hold, round_holds)
from serialhouse.rests import code_holds, judge_code, judge_look, look_holds
from serialhouse.rows import counts
from serialhouse.rules import is_rule, least_rule
from serialhouse.sames import first_unlike
from serialhouse.shares import share_at
from serialhouse.sheets import Sheet
from serialhouse.tosses import mean
from serialhouse.totals import joins_for, joins_hold
from serialhouse.trees import is_least, is_tree, least_tree, tree_holds, tree_paper
from tests.helper import (
    AA, ALL, CODES, EMPTY, ENDA, EVEN, EVENS, LAST, LEFT, NOAA, NONE, ONES, RIGHT, SOME, TWICE, is_int, letters_in, row_of,
    some_formats, some_sheets, some_tame_formats, words_of)

FORMS = [NOAA, NONE, EMPTY, ONES, EVEN, AA, LEFT, RIGHT, ALL, EVENS, SOME, ENDA] + some_formats(
    12, 81, size=3) + some_tame_formats(8, 82, size=4)
PAIRS = list(zip(FORMS, FORMS[1:] + FORMS[:1])) + list(zip(FORMS, FORMS))
SHEETS = [TWICE, LAST] + some_sheets(10, 83)
TREES = [(1, ()), (2, ((1, 1), (-1, -2))), (2, ((-1, 1), (-2, 0))), (2, ((0, 0),)), (3, least_tree(3)), (5, least_tree(5)),
         (6, ((-1, 1), (-2, 1))), (4, ((1, 2), (-1, -2), (-3, -4)))]


def form_findings():
    """Findings of the parts 1 to 4 that hold."""
    told = []
    for form in FORMS:
        text = str(form)
        words = words_of(form, "ab", 3)
        told += [("word", text, word) for word in words[:2]]
        told += [("no word", text, word) for word in ("aa", "c", "ba", "") if word not in words][:2]
        told += [("count", text, length, counts(form, 7)[length]) for length in (0, 2, 6)]
        told.append(("rule", text) + least_rule(form))
        told += [("number", text, word, number) for number, word in enumerate(words[:3])]
        told += [("length at", text, number, len(word)) for number, word in enumerate(words[:3])]
    for sheet in SHEETS:
        paper = judge_readings(sheet)
        told.append(({"one": "one reading", "two": "two readings"}[paper[0]], str(sheet)) + paper[1:])
    for one, other in PAIRS:
        texts = str(one), str(other)
        word = first_apart(one, other)
        told.append(("same words",) + texts if word is None else ("apart",) + texts + (word,))
        length = first_unlike(one, other)
        told.append(("same rows",) + texts if length is None else ("unlike rows",) + texts + (length,))
        for paper in (judge_lead(one, other), judge_into(one, other)):
            told.append(paper[:1] + texts + paper[1:])
            if paper[0] in ("lead", "into") and one.useful:
                word = word_at(one, 2) or word_at(one, 0)
                told.append(("led",) + texts + (paper[1], word, led(one, other, paper[1], word)))
    return told


def draw_findings():
    """Findings of the parts 5 and 6 that hold."""
    told = [("mean", many) + mean(many) for many in (1, 2, 3, 4, 5, 9, 12, 300)]
    told += [("tree", many, tree, tree_paper(many, tree)) for many, tree in TREES if tree]
    told += [("least", many, tree) for many, tree in TREES if is_least(many, tree)]
    for code in CODES:
        told_code = code.letters, code.words
        paper = judge_code(code)
        told.append(({"one": "one way", "two": "two ways"}[paper[0]],) + told_code + paper[1:])
        if paper[0] == "one":
            paper = judge_look(code)
            told.append(("look",) + told_code + paper[1:] if paper[0] == "within" else ("no look",) + told_code + (paper[1:],))
    for letters in (2, 3):
        for weights in ((5, 1, 1, 3), (1, 1, 1, 1), (0, 0, 0), (7,), (3, 1, 2, 2, 5)):
            told.append(("joins", letters, weights, joins_for(letters, weights)))
    return told


def growth_findings():
    """Findings of the parts 7 to 9 that hold."""
    told = []
    for form in FORMS:
        text = str(form)
        for under in (1, 2, 3):
            told.append(("round", text, under) + around(form, under))
            told += [("lengths", text, under, rest, lot_of(lengths_with(form, under, rest))) for rest in (0, under - 1)]
        told.append(("empty lengths", text, lot_of(empty_lengths(form))))
        told.append(("growth", text, judge_growth(form)))
        if degree(form) is not None:
            told.append(("pieces", text) + pieces(form))
        for letters in {letters_in(form) or "a", "ab"}:
            told += [("share", text, letters, length) + share_at(form, letters, length) for length in (0, 3)]
            told.append(("limits", text, letters, limits_paper(form, letters)))
            paper = thin_paper(form, letters)
            told.append((paper[0], text, letters) + paper[1:])
    for one, other in PAIRS:
        texts = str(one), str(other)
        for under in (1, 2):
            paper = judge_remainders(one, other, under)
            told.append(("left " + paper[0],) + texts + ((under,) if paper[0] == "alike" else (under, paper[1])))
        if degree(one) is not None and degree(other) is not None:
            told.append(("never fewer",) + texts + (judge_never_fewer(one, other),))
    return told


def lot_of(lot):
    return lot.few, lot.first, lot.around, lot.rests


def read(text, made):
    try:
        return made.read(text)
    except BadText:
        return None


def code_of(letters, words):
    try:
        return Code(letters, words)
    except BadCode:
        return None


def is_same_value(thing, told):
    if type(told) is not tuple:
        return type(thing) is type(told) and thing == told
    return type(thing) is tuple and len(thing) == len(told) and all(map(is_same_value, thing, told))


def led_by_hand(table, word):
    letters, number = "", 0
    for letter in word:
        step = next(step for step in table[number][2] if step[0] == letter)
        letters, number = letters + step[1], step[2]
    return letters


def number_by_hand(form, word):
    return words_of(form, letters_in(form), len(word)).index(word)


def is_right_of_forms(thing):
    """What the document says of findings of the parts 1 to 4."""
    if type(thing) is not tuple or not thing or type(thing[0]) is not str:
        return False
    kind, parts = thing[0], thing[1:]
    if kind in ("one reading", "two readings"):
        sheet = read(parts[0], Sheet) if parts else None
        many = 2 if kind == "one reading" else 4
        return sheet is not None and len(parts) == many and readings_hold(sheet, (kind[:3],) + parts[1:])
    many = {"word": 2, "no word": 2, "same words": 2, "apart": 3, "count": 3, "rule": 3, "same rows": 2, "unlike rows": 3,
            "number": 3, "length at": 3, "lead": 3, "parted": 3, "into": 3, "barred": 3, "led": 5}.get(kind)
    if many != len(parts):
        return False
    form = read(parts[0], Format)
    if form is None:
        return False
    if kind in ("word", "no word"):
        return type(parts[1]) is str and parts[1] == parts[1].lower() and (parts[1].isalpha() or parts[1] == "") and (
            form.has(parts[1]) == (kind == "word"))
    if kind == "count":
        return is_int(parts[1]) and parts[1] <= 300 and is_same_value(parts[2], counts(form, parts[1] + 1)[-1])
    if kind == "rule":
        return is_rule(parts[1:]) and row_of(parts[1:], 60) == list(counts(form, 60))
    if kind == "number":
        return form.has(parts[1]) and is_same_value(parts[2], number_by_hand(form, parts[1]))
    if kind == "length at":
        words = words_of(form, letters_in(form), 6)
        return is_int(parts[1]) and is_int(parts[2]) and parts[1] < len(words) and len(words[parts[1]]) == parts[2]
    other = read(parts[1], Format)
    return other is not None and is_right_of_two(kind, form, other, parts[2:])


def is_right_of_two(kind, one, other, parts):
    if kind == "same words":
        return first_apart(one, other) is None
    if kind == "apart":
        return type(parts[0]) is str and one.has(parts[0]) != other.has(parts[0])
    if kind == "same rows":
        return counts(one, 80) == counts(other, 80)
    if kind == "unlike rows":
        return is_int(parts[0]) and parts[0] <= 300 and counts(one, parts[0] + 1)[-1] != counts(other, parts[0] + 1)[-1]
    if kind in ("lead", "parted"):
        return lead_holds(one, other, (kind,) + parts)
    if kind in ("into", "barred"):
        return into_holds(one, other, (kind,) + parts)
    return is_table(one, other, parts[0]) and one.has(parts[1]) and is_same_value(parts[2], led_by_hand(*parts[:2]))


def is_right_of_draws(thing):
    """What the document says of findings of the parts 5 and 6."""
    if type(thing) is not tuple or not thing or type(thing[0]) is not str:
        return False
    kind, parts = thing[0], thing[1:]
    many = {"mean": 3, "tree": 3, "least": 2, "one way": 3, "two ways": 4, "look": 4, "no look": 3, "joins": 3}.get(kind)
    if many != len(parts):
        return False
    if kind in ("mean", "tree", "least"):
        if not is_int(parts[0], 1):
            return False
        if kind == "mean":
            return parts[0] <= 300 and is_same_value(parts[1:], mean(parts[0]))
        if not is_tree(parts[0], parts[1]):
            return False
        return tree_holds(*parts) if kind == "tree" else is_least(*parts)
    if kind == "joins":
        return is_int(parts[0]) and parts[0] in (2, 3) and type(parts[1]) is tuple and len(parts[1]) > 0 and all(
            is_int(weight) for weight in parts[1]) and joins_hold(*parts)
    code = code_of(*parts[:2])
    if code is None:
        return False
    if kind == "no look":
        return type(parts[2]) is tuple and len(parts[2]) == 4 and look_holds(code, ("endless",) + parts[2])
    if kind == "look":
        return look_holds(code, ("within",) + parts[2:])
    return code_holds(code, ({"one way": "one", "two ways": "two"}[kind],) + parts[2:])


def are_letters_of(form, thing):
    return type(thing) is str and 1 <= len(thing) <= 3 and thing.isalpha() and thing.islower() and (
        sorted(set(thing)) == list(thing) and set(letters_in(form)) <= set(thing))


def is_right_of_growth(thing):
    """What the document says of findings of the parts 7 to 9."""
    if type(thing) is not tuple or not thing or type(thing[0]) is not str:
        return False
    kind, parts = thing[0], thing[1:]
    many = {"round": 4, "lengths": 4, "empty lengths": 2, "left alike": 3, "left apart": 4, "growth": 2, "never fewer": 3,
            "pieces": 3, "share": 5, "limits": 3, "thin": 3, "thick": 4}.get(kind)
    form = read(parts[0], Format) if many == len(parts) else None
    if form is None:
        return False
    if kind in ("round", "lengths"):
        if not is_int(parts[1], 1):
            return False
        return round_holds(form, parts[1], (kind,) + parts[2:]) if kind == "round" else is_right_lot(form, *parts[1:])
    if kind == "empty lengths":
        return is_same_value(parts[1], lot_of(lot_by_hand(counts(form, 200), 0)))
    if kind in ("left alike", "left apart", "never fewer"):
        other = read(parts[1], Format)
        if other is None or kind != "never fewer" and not is_int(parts[2], 1):
            return False
        if kind == "never fewer":
            return never_fewer_holds(form, other, parts[2])
        if kind == "left apart":
            return remainders_hold(form, other, parts[2], ("apart", parts[3]))
        return not any((one - two) % parts[2] for one, two in zip(counts(form, 60), counts(other, 60)))
    if kind == "growth":
        return growth_holds(form, parts[1])
    if kind == "pieces":
        try:
            return is_same_value(parts[1:], pieces(form))
        except Doubles:
            return False
    return are_letters_of(form, parts[1]) and is_right_share(kind, form, parts[1], parts[2:])


def lot_by_hand(row, rest):
    """The lot of the lengths with a count, of a small format: all comes round within few lengths."""
    for turn in range(1, 60):
        for first in range(60):
            if all(row[at] == row[at + turn] if rest else (row[at] == 0) == (row[at + turn] == 0)
                   for at in range(first, len(row) - turn)):
                few = tuple(at for at in range(first) if row[at] == 0)
                return Lengths(few, first, turn, tuple(sorted(at % turn for at in range(first, first + turn) if row[at] == 0)))
    return None


def is_right_lot(form, under, rest, lot):
    if not is_int(rest) or rest >= under:
        return False
    try:
        pair = around(form, under)
    except TooFar:
        return False
    row = [(number - rest) % under for number in counts(form, 2 * sum(pair) + 60)]
    told = [at for at in range(sum(pair)) if row[at] == 0]
    right = Lengths(tuple(at for at in told if at < pair[0]), pair[0], pair[1],
                    tuple(sorted(at % pair[1] for at in told if at >= pair[0])))
    return is_same_value(lot, lot_of(right))


def is_right_share(kind, form, letters, parts):
    if kind == "share":
        if not is_int(parts[0]) or parts[0] > 400:
            return False
        share = Fraction(counts(form, parts[0] + 1)[-1], len(letters) ** parts[0])
        return is_same_value(parts[1:], (share.numerator, share.denominator))
    if kind == "limits":
        return limits_hold(form, letters, parts[0])
    return thin_holds(form, letters, (kind,) + parts)
