"""The bureau, against books that are kept by hand."""

import copy
import random
import unittest

from serialhouse.books import Bureau
from serialhouse.comparing import is_same
from serialhouse.errors import (
    BadDeed, BadLetters, BadName, BadSign, IssuedBefore, NameTaken, NoBook, NotDrawn, NothingToUndo, NotIn, NotInForce,
    NoWordLeft, SerialError, StillInForce)
from serialhouse.formats import Format
from serialhouse.joining import both, either, renamed, without
from serialhouse.leastforms import least_form
from serialhouse.numbering import has_number, number_of
from serialhouse.rows import count
from serialhouse.tosses import draw, rows_to
from tests.helper import AA, ALL, ANY, EMPTY, EVEN, LEFT, NOAA, NONE, ONES, changed, some_formats

MOST = 6
FORMS = (NOAA, AA, ALL, EVEN, LEFT, NONE, EMPTY, ONES) + tuple(some_formats(10, 71, size=3))
FEW = Format(2, ((0, "a", 1), (0, "c", 1)), (1,))


def words_to_most(form):
    """The words of a format with few letters, walked along its moves."""
    told, ways = [], [("", 0)]
    while ways:
        told += [word for word, state in ways if state in form.ends]
        ways = [(word + move[1], move[2]) for word, state in ways for move in form.moves
                if move[0] == state and len(word) < MOST]
    return set(told)


def in_order(words):
    return sorted(words, key=lambda word: (len(word), word))


class Hand:
    """Books kept by hand: the words of each format by themselves, as far as they have few letters."""

    def __init__(self):
        self.books = {}
        self.log = []
        self.past = []

    def do(self, deed, form=None):
        """Does a deed; what it answers, or the error that it raises with its parameters, as a pair."""
        kind, name = deed[:2]
        if kind == "start":
            if not (type(name) is str and 1 <= len(name) <= 8 and all("a" <= sign <= "z" for sign in name)):
                return BadName, name
            if name in self.books:
                return NameTaken, name
            return self.put(deed, {"words": words_to_most(form), "issued": [], "voided": [], "forms": [form]})
        if type(name) is not str or name not in self.books:
            return NoBook, name
        book = copy.deepcopy({key: worth for key, worth in self.books[name].items() if key != "forms"})
        book["forms"] = list(self.books[name]["forms"])
        force = [word for word in book["issued"] if word not in book["voided"]]
        left = in_order(book["words"] - set(book["issued"]))
        if kind == "next":
            return self.issue(deed, book, left[0], left[0]) if left else (NoWordLeft, name)
        if kind == "word":
            if deed[2] not in book["words"]:
                return NotIn, deed[2]
            return (IssuedBefore, deed[2]) if deed[2] in book["issued"] else self.issue(deed, book, deed[2], None)
        if kind == "drawn":
            left = [word for word in left if len(word) == deed[2]]
            if not left:
                return NoWordLeft, name
            drawn = draw(len(left), deed[3])
            if drawn[0] == "open" or drawn[2] != len(deed[3]):
                return NotDrawn, deed[3]
            return self.issue(deed, book, left[drawn[1]], left[drawn[1]])
        if kind == "void":
            if deed[2] not in force:
                return NotInForce, deed[2]
            book["voided"].append(deed[2])
            return self.put(deed, book)
        if kind == "edit":
            return self.edit(deed, book, force, form)
        return self.letters(deed, book)

    def edit(self, deed, book, force, form):
        other = words_to_most(form)
        if deed[2] not in ("|", "&", "-"):
            return BadSign, deed[2]
        book["words"] = {"|": book["words"] | other, "&": book["words"] & other, "-": book["words"] - other}[deed[2]]
        gone = in_order([word for word in force if word not in book["words"]])
        if gone:
            return StillInForce, gone[0]
        joined = {"|": either, "&": both, "-": without}[deed[2]]
        book["forms"].append(joined(book["forms"][-1], form))
        return self.put(deed, book)

    def letters(self, deed, book):
        table = dict(deed[2])
        used = {sign for word in book["issued"] for sign in word} | {move[1] for move in book["forms"][-1].moves}
        if len(table) < len(deed[2]) or len(set(table.values())) < len(table):
            return BadLetters, deed[2]
        if len({table.get(sign, sign) for sign in used}) < len(used):
            return BadLetters, deed[2]
        for key in ("issued", "voided"):
            book[key] = ["".join(table.get(sign, sign) for sign in word) for word in book[key]]
        book["words"] = {"".join(table.get(sign, sign) for sign in word) for word in book["words"]}
        book["forms"].append(renamed(book["forms"][-1], deed[2]))
        return self.put(deed, book)

    def issue(self, deed, book, word, answer):
        book["issued"].append(word)
        return self.put(deed, book, answer)

    def put(self, deed, book, answer=None):
        self.past.append(dict(self.books))
        self.books[deed[1]] = book
        self.log.append(deed)
        return None, answer

    def undo(self):
        if not self.past:
            return NothingToUndo, None
        self.books = self.past.pop()
        self.log.pop()
        return None, None


def call(bureau, deed, form):
    """Does a deed with a bureau; what it answers, or the error and its parameter."""
    kind, name = deed[:2]
    calls = {
        "start": lambda: bureau.start(name, form), "next": lambda: bureau.issue_next(name),
        "word": lambda: bureau.issue(name, deed[2]), "drawn": lambda: bureau.issue_drawn(name, deed[2], deed[3]),
        "void": lambda: bureau.void(name, deed[2]), "edit": lambda: bureau.edit(name, deed[2], form),
        "letters": lambda: bureau.put_letters(name, deed[2])}
    return outcome(calls[kind])


def outcome(called):
    try:
        return None, called()
    except SerialError as error:
        worths = list(vars(error).values())
        return error.__class__, worths[0] if worths else None


def some_deed(source, hand):
    """A deed, often one that can be done, and the format of it."""
    kind = source.choice(("start", "next", "next", "word", "word", "drawn", "drawn", "void", "void", "edit", "letters"))
    names = list(hand.books)
    name = source.choice(names) if names and source.random() < 0.93 else source.choice(("card", "key", "slip", "A", "", "ab"))
    if kind == "start" and len(names) >= 4:
        kind = "next"
    form = source.choice(FORMS)
    book = hand.books.get(name, {"words": set(), "issued": []})
    if kind == "start":
        name = source.choice(("card", "key", "slip", "pass", "a", "abcdefgh", "abcdefghi", "", "a b", "A1", 7))
        return ("start", name, str(form)), form
    if kind == "next":
        return ("next", name), None
    if kind == "word":
        words = sorted(book["words"]) + book["issued"][:2] + ["a", "ab", "x"]
        return ("word", name, source.choice(words)), None
    if kind == "drawn":
        length = source.randint(0, 4)
        many = len([word for word in book["words"] - set(book["issued"]) if len(word) == length])
        rows = rows_to(many, source.randrange(many), 9) if many else ("0",)
        tosses = source.choice(rows) if rows and source.random() < 0.8 else source.choice(("", "0", "11", "0110"))
        return ("drawn", name, length, tosses), None
    if kind == "void":
        return ("void", name, source.choice(book["issued"] + ["a", "b", "ab"])), None
    if kind == "edit":
        return ("edit", name, source.choice(("|", "|", "&", "-", "+")), str(form)), form
    pairs = source.choice(((("a", "b"), ("b", "a")), (("a", "c"),), (("c", "a"),), (), (("b", "x"), ("x", "b")), (("a", "b"),),
                           (("a", "c"), ("b", "c")), (("a", "b"), ("b", "c"), ("c", "a"))))
    return ("letters", name, pairs), None


def is_beyond(hand, deed):
    """Whether what a deed does is not told by words with few letters."""
    book = hand.books.get(deed[1])
    if book is None:
        return False
    left = book["words"] - set(book["issued"])
    if deed[0] == "next":
        return not left and has_number(least_form(book["forms"][-1]), len(book["words"]))
    return len(book["forms"]) > 5 and deed[0] in ("edit", "letters")


class HandTest(unittest.TestCase):
    def test_against_hand(self):
        seen = {}
        for seed in range(60):
            source = random.Random(seed)
            bureau, hand = Bureau(), Hand()
            for _ in range(45):
                if source.random() < 0.12:
                    right, told = hand.undo(), outcome(bureau.undo)
                    kind = "undo"
                else:
                    deed, form = some_deed(source, hand)
                    if is_beyond(hand, deed):
                        continue
                    right, told = hand.do(deed, form), call(bureau, deed, form)
                    kind = deed[0]
                self.assertEqual(told, right)
                seen[(kind, right[0])] = seen.get((kind, right[0]), 0) + 1
                self.compare(bureau, hand)
            self.compare_all(bureau, hand)
        for kind, errors in (("start", (None, BadName, NameTaken)), ("next", (None, NoBook, NoWordLeft)),
                             ("word", (None, NoBook, NotIn, IssuedBefore)), ("undo", (None, NothingToUndo)),
                             ("drawn", (None, NoBook, NoWordLeft, NotDrawn)), ("void", (None, NoBook, NotInForce)),
                             ("edit", (None, NoBook, BadSign, StillInForce)), ("letters", (None, NoBook, BadLetters))):
            for error in errors:
                self.assertGreater(seen.get((kind, error), 0), 2, (kind, error))

    def compare(self, bureau, hand):
        self.assertEqual(bureau.log(), tuple(hand.log))
        self.assertEqual(len(bureau), len(hand.log))
        self.assertEqual(bureau.books(), tuple(sorted(hand.books)))
        for name, book in hand.books.items():
            self.assertEqual(bureau.all_issued(name), tuple(book["issued"]))
            force = in_order([word for word in book["issued"] if word not in book["voided"]])
            self.assertEqual(bureau.in_force(name), tuple(force))

    def compare_all(self, bureau, hand):
        for name, book in hand.books.items():
            self.assertTrue(bureau.editions(name) == tuple(book["forms"]))
            self.assertTrue(bureau.form_now(name) == book["forms"][-1])
            words = in_order(book["words"])
            for word in words + ["x", "abababab", "Z"] + book["issued"]:
                standing = "free" if bureau.form_now(name).has(word) else "none"
                if word in book["issued"]:
                    standing = "void" if word in book["voided"] else "force"
                self.assertEqual(bureau.standing(name, word), standing)
                told = outcome(lambda: bureau.number_now(name, word))
                self.assertEqual(told, (None, words.index(word)) if standing == "force" else (NotInForce, word))
            for length in range(MOST + 1):
                left = [word for word in words if len(word) == length and word not in book["issued"]]
                self.assertEqual(bureau.many_left(name, length), len(left))
        made = Bureau.of(tuple(hand.log))
        self.assertTrue(made == bureau and bureau == made)
        self.assertEqual(made.log(), bureau.log())
        while hand.log:
            hand.undo()
            self.assertIsNone(made.undo())
            self.compare(made, hand)
            self.assertTrue(Bureau.of(tuple(hand.log)) == made)
        self.assertRaises(NothingToUndo, made.undo)


def started(form=NOAA, name="card"):
    bureau = Bureau()
    bureau.start(name, form)
    return bureau


class RaisedTest(unittest.TestCase):
    def raised(self, error, called, *worths):
        """That a call raises an error with these parameters."""
        with self.assertRaises(error) as caught:
            called()
        self.assertEqual(list(vars(caught.exception).values()), list(worths))

    def test_names(self):
        bureau = started()
        for name in ANY + ("abcdefghi", "Card", "card ", "a-b", "card\n", b"card", ["card"]):
            if type(name) is str and name.isalpha() and name.islower() and len(name) < 9:
                continue
            self.raised(BadName, lambda: bureau.start(name, NOAA), name)
        self.raised(NameTaken, lambda: bureau.start("card", AA), "card")
        self.assertEqual((bureau.books(), len(bureau)), (("card",), 1))
        bureau.start(name="abcdefgh", form=AA)
        bureau.start("z", NOAA)
        self.assertEqual(bureau.books(), ("abcdefgh", "card", "z"))

    def test_no_book_is_ahead_of_all_else(self):
        bureau = started()
        for name in ANY + ("cards", "Card", ["card"], "car"):
            for called in (
                    lambda: bureau.issue_next(name), lambda: bureau.issue(name, "aa"),
                    lambda: bureau.issue_drawn(name, 0, "0000"), lambda: bureau.void(name, None),
                    lambda: bureau.edit(name, None, AA), lambda: bureau.put_letters(name, None),
                    lambda: bureau.form_now(name), lambda: bureau.editions(name), lambda: bureau.all_issued(name),
                    lambda: bureau.in_force(name), lambda: bureau.number_now(name, None),
                    lambda: bureau.standing(name, None), lambda: bureau.many_left(name, 3)):
                self.raised(NoBook, called, name)
        self.assertEqual(len(bureau), 1)

    def test_words(self):
        bureau = started()
        bureau.issue("card", "ab")
        bureau.issue("card", "b")
        bureau.void("card", "b")
        before = bureau.log()
        for word in ANY + ("aa", "abc", "AB"):
            if type(word) is str and NOAA.has(word) and word not in ("ab", "b"):
                continue
            error = IssuedBefore if word in ("ab", "b") else NotIn
            self.raised(error, lambda: bureau.issue("card", word), word)
            if word != "ab":
                self.raised(NotInForce, lambda: bureau.void("card", word), word)
                self.raised(NotInForce, lambda: bureau.number_now("card", word), word)
        self.assertEqual(bureau.log(), before)
        for thing in ANY:
            right = {"ab": "force", "b": "void"}.get(thing) if type(thing) is str else None
            self.assertEqual(bureau.standing("card", thing), right or ("free" if NOAA.has(thing) else "none"))

    def test_words_that_are_none_any_more(self):
        bureau = started(FEW)
        bureau.issue("card", "c")
        bureau.void("card", "c")
        bureau.edit("card", "-", Format(2, ((0, "c", 1),), (1,)))
        # No word of the format any more: NotIn is ahead of IssuedBefore.
        self.raised(NotIn, lambda: bureau.issue("card", "c"), "c")
        self.assertEqual(bureau.standing("card", "c"), "void")
        # It is none of the words of its length that are left, nor does it stand among those that are drawn.
        self.assertEqual(bureau.many_left("card", 1), 1)
        self.assertEqual(bureau.issue_drawn("card", 1, ""), "a")
        bureau.undo()
        bureau.edit("card", "|", FEW)
        self.raised(IssuedBefore, lambda: bureau.issue("card", "c"), "c")
        self.assertEqual(bureau.issue_next("card"), "a")
        self.raised(NoWordLeft, lambda: bureau.issue_next("card"), "card")
        self.raised(NoWordLeft, lambda: bureau.issue_drawn("card", 1, ""), "card")
        self.raised(NoWordLeft, lambda: bureau.issue_drawn("card", 7, "01"), "card")

    def test_draws_behind_edits(self):
        # b was voided and is no word any more: of aa, ab, bb those that are left are numbered without it.
        bureau = started(Format(2, ((0, "a", 1), (0, "b", 1), (1, "b", 1)), (1,)))
        for word in ("bb", "ab"):
            bureau.issue("card", word)
            bureau.void("card", word)
        bureau.edit("card", "-", Format(3, ((0, "b", 1), (1, "b", 2)), (2,)))
        bureau.edit("card", "|", ALL)
        bureau.edit("card", "-", Format(3, ((0, "a", 1), (1, "b", 2)), (2,)))
        self.assertEqual(bureau.many_left("card", 2), 2)
        self.assertEqual([self.drawn(bureau, tosses) for tosses in "01"], ["aa", "ba"])

    def drawn(self, bureau, tosses):
        """The word of two letters that tosses draw; it is taken back."""
        word = bureau.issue_drawn("card", 2, tosses)
        bureau.undo()
        return word

    def test_signs(self):
        bureau = started()
        bureau.issue("card", "ab")
        before = bureau.log()
        for sign in ANY + ("|&", "", "+", "&&", ["|"], ("|",), "| "):
            self.raised(BadSign, lambda: bureau.edit("card", sign, AA), sign)
        self.raised(StillInForce, lambda: bureau.edit("card", "&", AA), "ab")
        self.assertEqual((bureau.log(), bureau.editions("card")), (before, (NOAA,)))

    def test_first_word_in_force(self):
        bureau = started()
        for word in ("bbb", "ba", "b", "ab"):
            bureau.issue("card", word)
        bureau.void("card", "b")
        self.raised(StillInForce, lambda: bureau.edit("card", "&", NONE), "ab")
        self.raised(StillInForce, lambda: bureau.edit("card", "-", NOAA), "ab")
        bureau.void("card", "ab")
        self.raised(StillInForce, lambda: bureau.edit("card", "&", NONE), "ba")

    def test_letters(self):
        bureau = started()
        bureau.issue("card", "ab")
        bureau.issue("card", "b")
        before = bureau.log()
        for pairs in ANY + ((("a", "b"),), (("a", "c"), ("b", "c")), (("a", "c"), ("a", "d")), (("a", "C"),), (("a", ""),),
                            (("a", "cd"),), [("a", "c")], (["a", "c"],), (("a",),), (("a", "c", "d"),), "ac"):
            if pairs in ((), (("a", "a"),)):
                continue
            self.raised(BadLetters, lambda: bureau.put_letters("card", pairs), pairs)
        self.assertEqual(bureau.log(), before)
        bureau.put_letters("card", (("a", "b"), ("b", "c"), ("x", "a")))
        self.assertEqual(bureau.all_issued("card"), ("bc", "c"))
        self.assertTrue(bureau.form_now("card") == renamed(NOAA, (("a", "b"), ("b", "c"))))

    def test_letters_of_voided_words(self):
        bureau = started(FEW)
        bureau.issue("card", "c")
        bureau.void("card", "c")
        bureau.edit("card", "-", Format(2, ((0, "c", 1),), (1,)))
        # No move has a c any more, but a voided word has.
        self.assertEqual(bureau.form_now("card").letters, "a")
        self.raised(BadLetters, lambda: bureau.put_letters("card", (("a", "c"),)), (("a", "c"),))
        bureau.put_letters("card", (("a", "c"), ("c", "z")))
        self.assertEqual((bureau.standing("card", "z"), bureau.standing("card", "c")), ("void", "free"))
        # Letters of moves that are not useful count, too.
        bureau = started(Format(2, ((0, "a", 0), (0, "b", 1)), (0,)))
        self.raised(BadLetters, lambda: bureau.put_letters("card", (("a", "b"),)), (("a", "b"),))

    def test_drawn(self):
        bureau = started()
        before = bureau.log()
        for tosses in ("", "0", "00", "11", "1111", "0000", "10101010", "0" * 400):
            self.raised(NotDrawn, lambda: bureau.issue_drawn("card", 3, tosses), tosses)
        self.assertEqual(bureau.log(), before)
        for thing in ANY + (["0", "0", "1"], ("0", "0", "1"), b"001", "002", "00 1", 1):
            if thing not in ("0",):
                self.raised(NotDrawn, lambda: bureau.issue_drawn("card", 3, thing), thing)
            if type(thing) is not int or thing < 0:
                self.raised(NoWordLeft, lambda: bureau.issue_drawn("card", thing, ""), "card")
        self.raised(NoWordLeft, lambda: bureau.issue_drawn("card", 10 ** 59, ""), "card")
        self.assertEqual(bureau.log(), before)
        self.raised(NotDrawn, lambda: bureau.issue_drawn("card", 0, "0"), "0")
        self.assertEqual(bureau.issue_drawn("card", 0, ""), "")
        self.raised(NoWordLeft, lambda: bureau.issue_drawn("card", 0, "0"), "card")
        self.assertEqual(bureau.log()[-1], ("drawn", "card", 0, ""))

    def test_nothing_to_undo(self):
        bureau = Bureau()
        self.raised(NothingToUndo, bureau.undo)
        bureau.start("card", NOAA)
        bureau.undo()
        self.raised(NothingToUndo, bureau.undo)
        self.assertEqual((bureau.books(), bureau.log(), len(bureau)), ((), (), 0))
        self.assertTrue(bureau == Bureau())


class DeedTest(unittest.TestCase):
    def test_voided_words_are_never_issued_again(self):
        bureau = started(LEFT)
        self.assertEqual(bureau.issue_next("card"), "aa")
        bureau.void("card", "aa")
        self.assertEqual(bureau.many_left("card", 2), 1)
        self.assertEqual(bureau.issue_drawn("card", 2, ""), "ab")
        self.assertRaises(NoWordLeft, bureau.issue_next, "card")
        self.assertEqual(bureau.in_force("card"), ("ab",))

    def test_draws_by_all_tosses(self):
        for form in (NOAA, ALL, LEFT) + tuple(some_formats(12, 72, letters="abc", size=3)):
            for length in (0, 1, 2, 3):
                for taken in (0, 1, 2):
                    bureau = started(form)
                    words = in_order([word for word in words_to_most(form) if len(word) == length])
                    for word in words[::2][:taken]:
                        bureau.issue("card", word)
                    left = [word for word in words if word not in words[::2][:taken]]
                    self.assertEqual(bureau.many_left("card", length), len(left))
                    for index, word in enumerate(left):
                        for tosses in rows_to(len(left), index, 7):
                            self.assertEqual(bureau.issue_drawn("card", length, tosses), word)
                            bureau.undo()
                            self.assertRaises(NotDrawn, bureau.issue_drawn, "card", length, tosses + "0")

    def test_long_words(self):
        bureau = started()
        many = count(NOAA, 120)
        self.assertEqual(bureau.many_left("card", 120), many)
        tosses = "01" * 43
        drawn = draw(many, tosses)
        while drawn[0] == "open" or drawn[2] < len(tosses):
            tosses = tosses[:drawn[2]] if drawn[0] == "drawn" else tosses + "0"
            drawn = draw(many, tosses)
        first = bureau.issue_drawn("card", 120, tosses)
        self.assertEqual(number_of(NOAA, first), drawn[1] + number_of(NOAA, "ab" * 60))
        bureau.void("card", first)
        self.assertEqual(bureau.many_left("card", 120), many - 1)
        # Far words of a format that has one word of each sixth length alone.
        bureau = started(Format(6, tuple((state, "a", (state + 1) % 6) for state in range(6)), (5,)))
        self.assertEqual([len(bureau.issue_next("card")) for _ in range(50)], list(range(5, 305, 6)))
        self.assertTrue(Bureau.of(bureau.log()) == bureau)

    def test_first_edition_stays_as_it_is(self):
        form = Format(4, ((0, "a", 1), (0, "b", 2), (1, "a", 1), (3, "a", 1)), (1, 3))
        bureau = started(form)
        self.assertTrue(bureau.form_now("card") == form)
        self.assertEqual(bureau.log(), (("start", "card", str(form)),))
        bureau.put_letters("card", ())
        self.assertTrue(bureau.editions("card") == (form, least_form(form)))
        bureau.edit("card", "|", NONE)
        self.assertEqual(len(bureau.editions("card")), 3)
        self.assertEqual(bureau.log()[1:], (("letters", "card", ()), ("edit", "card", "|", str(NONE))))

    def test_numbers_behind_edits(self):
        for one, other in zip(some_formats(40, 73, size=3), some_formats(40, 74, size=3)):
            for sign, joined in (("|", either), ("&", both), ("-", without)):
                bureau = started(one)
                new = joined(one, other)
                words = [word for word in in_order(words_to_most(one)) if new.has(word)][:8]
                for word in words:
                    bureau.issue("card", word)
                before = [bureau.number_now("card", word) for word in words]
                bureau.edit("card", sign, other)
                more, fewer = without(new, one), without(one, new)
                self.assertTrue(is_same(bureau.form_now("card"), new))
                for word, number in zip(words, before):
                    ahead = [text for text in in_order(words_to_most(more)) if (len(text), text) < (len(word), word)]
                    gone = [text for text in in_order(words_to_most(fewer)) if (len(text), text) < (len(word), word)]
                    self.assertEqual(bureau.number_now("card", word), number + len(ahead) - len(gone))
                    self.assertEqual(len(ahead) if sign != "|" else len(gone), 0)

    def test_bureaus_share_nothing(self):
        one, other = started(), started()
        one.issue("card", "ab")
        self.assertEqual(other.all_issued("card"), ())
        made = Bureau.of(one.log())
        made.void("card", "ab")
        self.assertEqual((one.in_force("card"), len(one)), (("ab",), 2))
        one.undo()
        self.assertEqual((len(made), made.all_issued("card")), (3, ("ab",)))
        log = one.log()
        one.issue_next("card")
        self.assertEqual(len(log), 1)


class EqualTest(unittest.TestCase):
    def test_equal(self):
        one, other = started(), started()
        self.assertTrue(one == other)
        for word in ("ab", "b", ""):
            one.issue("card", word)
            self.assertFalse(one == other)
            other.issue("card", word)
        one.void("card", "ab")
        one.void("card", "b")
        other.void("card", "b")
        self.assertFalse(one == other)
        other.void("card", "ab")
        # Voided in another order, by other deeds: equal all the same.
        self.assertTrue(one == other)
        self.assertNotEqual(one.log(), other.log())

    def test_unlike(self):
        one = started()
        one.issue("card", "a")
        one.issue("card", "b")
        other = started()
        other.issue("card", "b")
        other.issue("card", "a")
        self.assertFalse(one == other)
        self.assertFalse(started() == started(name="key"))
        self.assertFalse(started() == started(least_form(either(NOAA, AA))))
        same_words = Format(3, ((0, "a", 1), (0, "b", 0), (1, "b", 0)), (0, 1))
        self.assertFalse(started() == started(same_words))
        twice = started()
        twice.put_letters("card", ())
        self.assertFalse(started() == twice)
        for thing in ANY:
            self.assertIs(started() == thing, False)
            self.assertIs(thing == started(), False)

    def test_other_ways_to_the_same_books(self):
        one, other = started(), started()
        one.issue_next("card")
        one.issue_next("card")
        other.issue("card", "")
        other.issue_drawn("card", 1, "0")
        self.assertTrue(one == other)
        one.start("key", AA)
        other.start("key", AA)
        other.start("slip", AA)
        self.assertFalse(one == other)
        other.undo()
        self.assertTrue(one == other)


class LogTest(unittest.TestCase):
    def full(self):
        bureau = started()
        bureau.issue_next("card")
        bureau.issue("card", "bb")
        bureau.start("key", LEFT)
        bureau.issue_drawn("card", 3, "001")
        bureau.void("card", "bb")
        bureau.edit("card", "|", AA)
        bureau.put_letters("card", (("a", "c"),))
        bureau.edit("key", "-", AA)
        bureau.issue_drawn("key", 2, "")
        bureau.edit("card", "&", renamed(either(NOAA, AA), (("a", "c"),)))
        return bureau

    def test_of(self):
        log = self.full().log()
        self.assertEqual(len(log), 11)
        self.assertTrue(Bureau.of(log) == self.full())
        self.assertTrue(Bureau.of(log=log) == self.full())
        self.assertTrue(Bureau.of(()) == Bureau())
        for many in range(len(log)):
            self.assertEqual(Bureau.of(log[:many]).log(), log[:many])

    def number(self, log):
        with self.assertRaises(BadDeed) as caught:
            Bureau.of(log)
        return caught.exception.number

    def test_bad_deeds(self):
        log = self.full().log()
        for thing in ANY:
            if thing == ():
                continue
            self.assertEqual(self.number(thing), 0)
            self.assertEqual(self.number((thing,)), 0)
            self.assertEqual(self.number(log + (thing,)), len(log))
            self.assertEqual(self.number(log[:4] + (thing,) + log[4:]), 4)
        self.assertEqual(self.number(list(log)), 0)

    def test_deeds_that_cannot_be_done(self):
        start = ("start", "card", str(NOAA))
        for deed in (
                start, ("start", "Card", str(NOAA)), ("start", "key", str(NOAA) + " "), ("start", "key", NOAA), ("start", "key"),
                ("start", "key", str(NOAA.sheet)), ("next", "key"), ("next", "card", ""), ("next",), ("word", "card", "aa"),
                ("word", "card"), ("word", "card", None), ("drawn", "card", 3, "00"), ("drawn", "card", 3, "0000"),
                ("drawn", "card", True, "0"), ("drawn", "card", 121, "0"), ("drawn", "card", -1, "0"), ("drawn", "card", "3", "000"),
                ("drawn", "card", 3, 0), ("drawn", "card", 3, None), ("drawn", "card", 3, "00a"), ("drawn", "card", 3),
                ("drawn", "card", 3, ("0", "0", "0")), ("void", "card", "a"), ("void", "card"), ("edit", "card", "+", str(AA)),
                ("edit", "card", "|", AA), ("edit", "card", "|"), ("edit", "card", "|", str(AA)[1:]), ("letters", "card", ["ab"]),
                ("letters", "card", (("a", "b"),)), ("letters", "card"), ["next", "card"], ("Next", "card"), ("issue", "card"),
                ("undo",), ("next", ["card"]), (None, "card"), (["next"], "card"), "next", ("log", "card")):
            self.assertEqual(self.number((start, deed, ("next", "card"))), 1, deed)
        ones = ("start", "card", str(ONES))
        self.assertEqual(len(Bureau.of((ones, ("drawn", "card", 120, "")))), 2)
        self.assertEqual(self.number((ones, ("drawn", "card", 121, ""))), 1)
        for deed in (("next", "card"), ("word", "card", "bb"), ("drawn", "card", 3, "001"), ("edit", "card", "&", str(NONE)),
                     ("letters", "card", ())):
            self.assertEqual(len(Bureau.of((start, deed))), 2)
        self.assertEqual(self.number((start, ("word", "card", "a"), ("edit", "card", "&", str(NONE)))), 2)

    def test_changed_logs(self):
        log = self.full().log()
        seen = set()
        for thing in changed(log, 75, 700):
            try:
                made = Bureau.of(thing)
            except BadDeed as error:
                seen.add(error.number)
                if type(thing) is not tuple:
                    self.assertEqual(error.number, 0)
                    continue
                # All ahead of it can be done, and it cannot.
                self.assertEqual(len(Bureau.of(thing[:error.number])), error.number)
                self.assertEqual(self.number(thing[:error.number + 1]), error.number)
            else:
                self.assertEqual(made.log(), thing)
        self.assertGreater(len(seen), 8)

    def test_log_tells_all(self):
        bureau = self.full()
        other = Bureau.of(bureau.log())
        self.assertIsNone(other.undo())
        self.assertIsNone(other.undo())
        self.assertEqual(other.log(), bureau.log()[:9])
        self.assertEqual(other.issue_drawn("key", 2, ""), "ab")
        self.assertFalse(other == bureau)
        other.edit("card", "&", renamed(either(NOAA, AA), (("a", "c"),)))
        self.assertTrue(other == bureau)


class CalledTest(unittest.TestCase):
    def test_by_name_and_none(self):
        bureau = Bureau()
        self.assertIsNone(bureau.start(name="card", form=NOAA))
        self.assertEqual(bureau.issue_next(name="card"), "")
        self.assertIsNone(bureau.issue(name="card", word="ab"))
        self.assertEqual(bureau.issue_drawn(name="card", length=1, tosses="1"), "b")
        self.assertIsNone(bureau.void(name="card", word="ab"))
        self.assertIsNone(bureau.edit(name="card", sign="|", form=AA))
        self.assertIsNone(bureau.put_letters(name="card", pairs=()))
        self.assertEqual(bureau.number_now(name="card", word="b"), 2)
        self.assertEqual(bureau.standing(name="card", word="ab"), "void")
        self.assertEqual(bureau.many_left(name="card", length=2), 3)
        self.assertEqual((bureau.all_issued(name="card"), bureau.in_force(name="card")), (("", "ab", "b"), ("", "b")))
        self.assertTrue(bureau.form_now(name="card") == bureau.editions(name="card")[-1])
        self.assertIsNone(bureau.undo())

    def test_what_is_passed_stays(self):
        before = str(NOAA), str(AA)
        bureau = started()
        bureau.edit("card", "|", AA)
        bureau.put_letters("card", (("a", "z"),))
        bureau.issue_next("card")
        self.assertEqual((str(NOAA), str(AA)), before)

    def test_asking_changes_nothing(self):
        bureau = started()
        bureau.issue("card", "ab")
        before = copy.deepcopy(vars(bureau)["_past"])
        for _ in range(2):
            bureau.books(), bureau.form_now("card"), bureau.editions("card"), bureau.all_issued("card")
            bureau.in_force("card"), bureau.number_now("card", "ab"), bureau.standing("card", "b")
            bureau.many_left("card", 3), bureau.log(), len(bureau), bureau == started()
        self.assertEqual([deed for deed, _ in vars(bureau)["_past"]], [deed for deed, _ in before])
        self.assertTrue(bureau == Bureau.of(bureau.log()))
