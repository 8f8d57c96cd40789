"""What the document promises over the whole program: what depends on words alone is the same for the same formats by
states numbered otherwise, by least forms, and by other letters; and whatever is told is held by what it leads to."""

import random
import unittest

from serialhouse.books import Bureau
from serialhouse.comparing import first_apart, first_word, is_same, is_within
from serialhouse.console import Console
from serialhouse.crossings import judge_never_fewer, never_fewer_from, never_fewer_holds
from serialhouse.drawing import draw_by_letters, draw_word, letter_mean, word_mean
from serialhouse.errors import SerialError
from serialhouse.farcounts import count_left
from serialhouse.findings import finding_holds
from serialhouse.formats import Format
from serialhouse.growth import degree, grows_faster, judge_growth, longest
from serialhouse.growthchecks import growth_holds
from serialhouse.intoleads import into_holds, is_into, judge_into
from serialhouse.joining import again, backward, behind, both, either, renamed, without
from serialhouse.leads import is_led, judge_lead, lead_holds, many_leads, parting_depth
from serialhouse.leadtables import image_of
from serialhouse.leastforms import least_form
from serialhouse.limits import is_thin, limits, limits_hold, limits_paper, thin_holds, thin_paper
from serialhouse.numbering import (
    between, first_from, how_many_ahead, last_to, length_at, many_to, number_of, step, word_at, words_at)
from serialhouse.pieces import piece_count, pieces, step_of
from serialhouse.readings import judge_readings, reading_counts
from serialhouse.remainders import (
    around, empty_lengths, judge_remainders, judge_rest, leave_alike, lengths_with, remainders, remainders_hold)
from serialhouse.rows import counts
from serialhouse.rules import least_rule
from serialhouse.sames import first_unlike, judge_rows, rows_hold
from serialhouse.shares import closed_lots, comes_to, lost_share, round_of, share_at
from tests.helper import FORMS, letters_in, some_formats, some_tame_formats

PAIRS = [pair for pair in zip(
    list(FORMS[:6]) + some_formats(30, 101) + some_tame_formats(30, 102) + some_formats(10, 103, size=3, letters="abc"),
    list(FORMS[2:6] + FORMS[:2]) + some_formats(30, 104) + some_tame_formats(30, 105) + some_formats(10, 106, size=3, letters="abc"))]
PUT = str.maketrans("abc", "jqz")


def numbered_otherwise(form, seed):
    """The same format by other numbers of states, but that of state 0, and with states that nothing leads to."""
    source = random.Random(seed)
    more = source.randint(0, 2)
    places = list(range(1, form.size + more))
    source.shuffle(places)
    place = dict(enumerate([0] + places))
    moves = sorted([(place[state], letter, place[goal]) for state, letter, goal in form.moves] + [
        (place[state], letter, 0) for state in range(form.size, form.size + more) for letter in letters_in(form)])
    return Format(form.size + more, tuple(moves), tuple(sorted(place[end] for end in form.ends)))


def outcome(called):
    """What a call answers, or its error with the parameters that are the same for the same words."""
    try:
        told = called()
    except SerialError as error:
        return error.__class__, [worth for worth in vars(error).values() if type(worth) is not tuple]
    return (told.few, told.first, told.around, told.rests) if hasattr(told, "around") else told


def told_by_words(form, put):
    """What is told of the words of a format, put making them words of the letters that are used."""
    word = put("abab")
    calls = (
        lambda: counts(form, 30), lambda: least_rule(form), lambda: count_left(form, 10 ** 20, 97), lambda: first_word(form),
        lambda: how_many_ahead(form, word), lambda: many_to(form, 6), lambda: word_at(form, 5), lambda: words_at(form, 1, 4),
        lambda: length_at(form, 10 ** 9), lambda: number_of(form, word), lambda: step(form, put("a"), 3),
        lambda: between(form, put("a"), word), lambda: first_from(form, word), lambda: last_to(form, word),
        lambda: draw_word(form, 4, "0110"), lambda: draw_by_letters(form, 4, "01101"), lambda: word_mean(form, 4),
        lambda: letter_mean(form, 4), lambda: remainders(form, 7, 20), lambda: around(form, 3), lambda: lengths_with(form, 3, 1),
        lambda: judge_rest(form, 4, 3), lambda: empty_lengths(form), lambda: judge_growth(form)[0], lambda: degree(form),
        lambda: longest(form), lambda: pieces(form), lambda: step_of(form), lambda: piece_count(form, 10 ** 9),
        lambda: share_at(form, put("abc"), 5), lambda: limits(form, put("abc")), lambda: is_thin(form, put("abc")))
    return [outcome(called) for called in calls]


def put_back(told, table):
    """What is told, with letters put back."""
    if isinstance(told, str):
        return told.translate(table)
    if isinstance(told, (tuple, list)):
        return type(told)(put_back(part, table) for part in told)
    return told


def told_of_two(one, other):
    """What is told of the words of two formats."""
    calls = (
        lambda: is_same(one, other), lambda: first_apart(one, other), lambda: is_within(one, other), lambda: first_unlike(one, other),
        lambda: is_led(one, other), lambda: parting_depth(one, other), lambda: many_leads(one, other, 4, 1000),
        lambda: leave_alike(one, other, 3), lambda: judge_remainders(one, other, 3)[0], lambda: grows_faster(one, other),
        lambda: never_fewer_from(one, other), lambda: str(both(one, other)), lambda: str(either(one, other)),
        lambda: str(without(one, other)), lambda: str(behind(one, other)), lambda: is_into(one, other))
    return [outcome(called) for called in calls]


class SameTest(unittest.TestCase):
    def test_one_format(self):
        for number, (form, _) in enumerate(PAIRS):
            if set(letters_in(form)) - set("abc"):
                continue
            right = told_by_words(form, str)
            for other in (numbered_otherwise(form, number), least_form(form), form.read(str(form)), either(form, form)):
                self.assertEqual(told_by_words(other, str), right, str(form))
            self.assertEqual(str(again(numbered_otherwise(form, number))), str(again(form)))
            self.assertEqual(str(backward(numbered_otherwise(form, number))), str(backward(form)))

    def test_other_letters(self):
        back = str.maketrans("jqz", "abc")
        for form, _ in PAIRS:
            if set(letters_in(form)) - set("abc"):
                continue
            other = renamed(form, (("a", "j"), ("b", "q"), ("c", "z")))
            self.assertEqual(put_back(told_by_words(other, lambda word: word.translate(PUT)), back), told_by_words(form, str))

    def test_two_formats(self):
        for number, (one, other) in enumerate(PAIRS):
            right = told_of_two(one, other)
            self.assertEqual(told_of_two(numbered_otherwise(one, number), numbered_otherwise(other, -number)), right)
            self.assertEqual(told_of_two(least_form(one), least_form(other)), right)

    def test_walks(self):
        # These depend on moves that no word goes along, too: not on how states are numbered.
        for number, (form, _) in enumerate(PAIRS):
            letters = letters_in(form) or "a"
            other = numbered_otherwise(form, number)
            self.assertEqual(lost_share(other, letters), lost_share(form, letters))
            self.assertEqual(round_of(other, letters), round_of(form, letters))
            self.assertEqual(sorted(around for _, around in closed_lots(other, letters)),
                             sorted(around for _, around in closed_lots(form, letters)))
            self.assertEqual(sorted(comes_to(other, letters, states) for states, _ in closed_lots(other, letters)),
                             sorted(comes_to(form, letters, states) for states, _ in closed_lots(form, letters)))

    def test_equal_calls_answer_alike(self):
        for one, other in PAIRS[::4]:
            self.assertEqual(told_by_words(one, str), told_by_words(one, str))
            self.assertEqual(told_of_two(one, other), told_of_two(one, other))
            for judge in (judge_lead, judge_into, judge_rows):
                self.assertEqual(judge(one, other), judge(one, other))
            self.assertEqual(judge_growth(one), judge_growth(one))


class PaperTest(unittest.TestCase):
    """Papers are accepted exactly if they are right, whoever made them: those of one format are held by the like ones."""

    def test_papers_of_words(self):
        for number, (one, other) in enumerate(PAIRS):
            mine, yours = least_form(one), numbered_otherwise(other, number)
            self.assertIs(rows_hold(mine, yours, judge_rows(one, other)), True)
            self.assertIs(remainders_hold(mine, yours, 3, judge_remainders(one, other, 3)), True)
            if degree(one) is not None and degree(other) is not None:
                self.assertIs(never_fewer_holds(mine, yours, judge_never_fewer(one, other)), True)
            for form in (one, mine, yours):
                self.assertIs(growth_holds(form, judge_growth(form)), True)
                letters = letters_in(form) or "a"
                self.assertIs(limits_hold(form, letters, limits_paper(form, letters)), True)
                self.assertIs(thin_holds(form, letters, thin_paper(form, letters)), True)

    def test_just_one_of_both(self):
        for one, other in PAIRS:
            lead, into = judge_lead(one, other), judge_into(one, other)
            self.assertEqual(lead[0] == "lead", is_led(one, other))
            self.assertEqual(into[0] == "into", is_into(one, other))
            self.assertIs(lead_holds(one, other, lead), True)
            self.assertIs(into_holds(one, other, into), True)
            if is_led(one, other):
                self.assertTrue(is_into(one, other) and is_into(other, one))
                self.assertEqual(first_unlike(one, other), None)
                self.assertTrue(is_same(image_of(one, other, lead[1]), other))
            elif is_into(one, other) and is_into(other, one):
                self.fail("a lead into each other makes a lead")

    def test_findings(self):
        for number, (one, other) in enumerate(PAIRS):
            mine, yours = str(one), str(numbered_otherwise(other, number))
            told = [("rule", mine) + least_rule(one), ("growth", mine, judge_growth(one))]
            told.append(("empty lengths", mine) + (outcome(lambda: empty_lengths(one)),))
            paper = judge_lead(one, Format.read(yours))
            told.append((paper[0], mine, yours, paper[1]))
            paper = judge_readings(one.sheet)
            told.append(("one reading", str(one.sheet), paper[1]))
            for thing in told:
                self.assertIs(finding_holds(thing), True, thing)

    def test_one_reading_of_each_word(self):
        for form, _ in PAIRS:
            self.assertEqual(judge_readings(form.sheet)[0], "one")
            self.assertEqual(reading_counts(form.sheet, 12), counts(form, 12))


class KeptTest(unittest.TestCase):
    def test_bureaus(self):
        for number, (one, other) in enumerate(PAIRS):
            told = []
            for mine, yours in ((one, other), (least_form(one), numbered_otherwise(other, number))):
                bureau = Bureau()
                bureau.start("card", mine)
                for called in (
                        lambda: bureau.issue_next("card"), lambda: bureau.issue_next("card"), lambda: bureau.issue("card", "ab"),
                        lambda: bureau.void("card", "a"), lambda: bureau.issue_drawn("card", 3, "01"),
                        lambda: bureau.edit("card", "|", yours), lambda: bureau.issue_next("card"), lambda: bureau.issue_drawn("card", 2, ""),
                        lambda: bureau.edit("card", "&", yours), lambda: bureau.put_letters("card", (("a", "q"),))):
                    told.append(outcome(called))
                told.append((bureau.all_issued("card"), bureau.in_force("card"), str(least_form(bureau.form_now("card"))),
                             [bureau.many_left("card", length) for length in range(5)],
                             [bureau.number_now("card", word) for word in bureau.in_force("card")]))
                self.assertTrue(Bureau.of(bureau.log()) == bureau)
            self.assertEqual(told[:len(told) // 2], told[len(told) // 2:])

    def test_consoles(self):
        for number, (one, other) in enumerate(PAIRS):
            told = []
            for mine, yours in ((one, other), (least_form(one), numbered_otherwise(other, number))):
                console = Console()
                for name, form in (("one", mine), ("other", yours)):
                    console.run(f"keep {name} " + str(form).replace("\n", ";"))
                told.append([outcome(lambda: console.run(command)) for command in (
                    "count one 9", "rule one", "word one 7", "number one ab", "rows one other", "lead one other", "toss one 4 0110",
                    "mean one 4", "round one 3", "growth one", "either third one other", "count third 5", "left third 1000000 13")])
            self.assertEqual(told[0], told[1])
