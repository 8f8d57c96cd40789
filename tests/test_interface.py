"""The interface: names, parameters, where they are defined; and that calls change nothing and answer alike."""

import ast
import copy
import importlib
import inspect
import pathlib
import unittest

from serialhouse.codes import Code
from serialhouse.errors import SerialError
from serialhouse.formats import Format
from serialhouse.leads import judge_lead
from serialhouse.readers import Reader
from serialhouse.sheets import Sheet
from tests.helper import (
    ALL, CODES, ENDA, EVENS, LAST, NEAR, NOAA, TWICE, some_formats, some_rules, some_sheets)

PACKAGE = pathlib.Path(__file__).parent.parent / "serialhouse"

FUNCTIONS = {
    "words": ("is_word(thing)", "is_ahead(one, other)", "common_beginning(one, other)"),
    "leastforms": ("format_of(sheet)", "least_form(form)"),
    "joining": ("both(one, other)", "either(one, other)", "without(one, other)", "behind(one, other)", "again(form)",
                "backward(form)", "renamed(form, pairs)"),
    "comparing": ("is_same(one, other)", "first_apart(one, other)", "is_within(one, other)", "first_word(form)"),
    "readings": ("readings(sheet, word)", "count_readings(sheet, word)", "reading_counts(sheet, many)",
                 "judge_readings(sheet)", "is_read_in_one(sheet)"),
    "readingchecks": ("readings_hold(sheet, thing)",),
    "rows": ("counts(form, many)", "count(form, length)", "count_from(form, state, length)",
             "counts_by_state(form, length)"),
    "rules": ("is_rule(thing)", "terms(rule, many)", "term(rule, index)", "least(rule)", "least_rule(form)",
              "least_rule_from(form, state)", "obeys(form, thing)", "added(one, other)", "lessened(one, other)",
              "timed(one, other)", "met(one, other)", "summed(rule)", "part(rule, step, rest)"),
    "sames": ("have_same_rows(one, other)", "judge_rows(one, other)", "rows_hold(one, other, thing)",
              "first_unlike(one, other)"),
    "farcounts": ("count_left(form, length, under)", "term_left(rule, index, under)"),
    "numbering": ("number_of(form, word)", "how_many_ahead(form, text)", "many_to(form, length)",
                  "has_number(form, number)", "word_at(form, number)", "words_at(form, number, many)",
                  "length_at(form, number)", "step(form, word, by)", "between(form, one, other)",
                  "first_from(form, text)", "last_to(form, text)"),
    "leadtables": ("is_table(one, other, thing)", "is_whole_table(one, other, thing)", "led(one, other, table, word)",
                   "led_back(one, other, table, word)", "image_of(one, other, table)",
                   "together(one, other, third, table, further)", "about(one, other, table)"),
    "leads": ("class_marks(one, other)", "is_led(one, other)", "judge_lead(one, other)",
              "lead_holds(one, other, thing)", "parting_depth(one, other)",
              "many_leads(one, other, depth, modulus)", "by_number(one, other, word)", "renamings(one, other)"),
    "intoleads": ("is_into(one, other)", "judge_into(one, other)", "into_holds(one, other, thing)",
                  "barring_depth(one, other)"),
    "ratios": ("is_fraction(thing)", "fraction(top, bottom)", "plus(one, other)", "minus(one, other)",
               "times(one, other)", "over(one, other)", "is_less(one, other)", "fraction_text(one)"),
    "tosses": ("draw(many, tosses)", "draw_by(weights, tosses)", "open_at(many, depth)", "leaves_at(many, depth)",
               "open_round(many)", "rows_to(many, index, most)", "mean(many)", "mean_by(weights)"),
    "drawing": ("draw_word(form, length, tosses)", "draw_by_letters(form, length, tosses)",
                "word_mean(form, length)", "letter_mean(form, length)"),
    "trees": ("is_tree(many, thing)", "tree_paper(many, tree)", "tree_holds(many, tree, thing)", "does_end(many, tree)",
              "is_even(many, tree)", "is_least(many, tree)", "tree_shares(many, tree)", "tree_mean(many, tree)",
              "excess(many, tree)", "unlike_depth(many, tree)", "tree_leaves(many, tree, depth)",
              "walked(many, tree, tosses)", "least_tree(many)"),
    "codes": ("is_message(code, thing)", "written(code, message)", "code_readings(code, word)", "read(code, word)",
              "form_of(code)", "message_count(code, length)"),
    "rests": ("is_without_beginnings(code)", "is_one_way(code)", "judge_code(code)", "code_holds(code, thing)",
              "look(code)", "judge_look(code)", "look_holds(code, thing)"),
    "lengthcodes": ("share_of(code)", "is_complete(code)", "further_word(code)", "code_of(letters, lengths)"),
    "totals": ("total_of(code, weights)", "least_total(letters, weights)", "best_code(letters, weights)",
               "joins_for(letters, weights)", "joins_hold(letters, weights, thing)"),
    "remainders": ("remainders(form, under, many)", "around(form, under, most=2000)", "round_holds(form, under, thing)",
                   "lengths_with(form, under, rest, most=2000)", "judge_rest(form, under, rest, most=2000)",
                   "rest_holds(form, under, rest, thing)", "empty_lengths(form)", "leave_alike(one, other, under)",
                   "judge_remainders(one, other, under)", "remainders_hold(one, other, under, thing)"),
    "growth": ("judge_growth(form)", "degree(form)", "grows_faster(one, other)", "longest(form)"),
    "growthchecks": ("growth_holds(form, thing)",),
    "pieces": ("pieces(form)", "step_of(form)", "piece_count(form, length)"),
    "crossings": ("judge_never_fewer(one, other)", "never_fewer_from(one, other)",
                  "never_fewer_holds(one, other, thing)"),
    "shares": ("share_at(form, letters, length)", "closed_lots(form, letters)", "turns(form, letters, states)",
               "round_of(form, letters)", "comes_to(form, letters, states)", "lost_share(form, letters)"),
    "limits": ("limits(form, letters)", "limits_paper(form, letters)", "limits_hold(form, letters, thing)",
               "is_thin(form, letters)", "thin_paper(form, letters)", "thin_holds(form, letters, thing)",
               "thin_bound(form, letters)"),
    "formfindings": ("form_finding_holds(thing)",),
    "drawfindings": ("draw_finding_holds(thing)",),
    "growthfindings": ("growth_finding_holds(thing)",),
    "findings": ("finding_holds(thing)",)}
CLASSES = {
    ("sheets", "Sheet"): ("__init__(self, size, moves, ends)", "goals(self, state, letter)", "__eq__(self, other)",
                          "__str__(self)", "read(text)"),
    ("formats", "Format"): ("__init__(self, size, moves, ends)", "step(self, state, letter)",
                            "led(self, word, state=0)", "has(self, thing)", "__eq__(self, other)", "__str__(self)",
                            "read(text)"),
    ("codes", "Code"): ("__init__(self, letters, words)", "__len__(self)", "__eq__(self, other)"),
    ("readers", "Reader"): ("__init__(self, code)", "take(self, word)", "close(self)", "undo(self)"),
    ("lengths", "Lengths"): (
        "__init__(self, few, first, around, rests)", "__eq__(self, other)", "__contains__(self, length)",
        "__and__(self, other)", "__or__(self, other)", "__sub__(self, other)", "__invert__(self)",
        "is_within(self, other)", "first_apart(self, other)", "moved(self, by)", "at(self, index)",
        "below(self, length)", "is_endless(self)"),
    ("books", "Bureau"): (
        "__init__(self)", "start(self, name, form)", "issue_next(self, name)", "issue(self, name, word)",
        "issue_drawn(self, name, length, tosses)", "void(self, name, word)", "edit(self, name, sign, form)",
        "put_letters(self, name, pairs)", "undo(self)", "log(self)", "of(log)", "books(self)", "form_now(self, name)",
        "editions(self, name)", "all_issued(self, name)", "in_force(self, name)", "number_now(self, name, word)",
        "standing(self, name, word)", "many_left(self, name, length)", "__eq__(self, other)", "__len__(self)"),
    ("console", "Console"): ("__init__(self)", "run(self, command)")}


class InterfaceTest(unittest.TestCase):
    def test_functions(self):
        for file, told in FUNCTIONS.items():
            module = importlib.import_module("serialhouse." + file)
            defined = [node.name for node in ast.parse((PACKAGE / (file + ".py")).read_text()).body
                       if isinstance(node, ast.FunctionDef)]
            for text in told:
                name = text.split("(")[0]
                self.assertIn(name, defined)
                self.assertEqual(name + str(inspect.signature(getattr(module, name))), text)

    def test_classes(self):
        for (file, name), told in CLASSES.items():
            made = getattr(importlib.import_module("serialhouse." + file), name)
            self.assertEqual(made.__module__, "serialhouse." + file)
            for text in told:
                method = text.split("(")[0]
                self.assertIn(method, vars(made))
                self.assertEqual(method + str(inspect.signature(getattr(made, method))), text)

    def test_only_modules_with_all_of_their_names(self):
        for file in list(FUNCTIONS) + ["sheets", "formats", "errors", "readers"]:
            self.assertTrue((PACKAGE / (file + ".py")).is_file())


def shape(thing):
    """All that an object holds, as plain values, to be compared."""
    return repr(sorted((name, shape(worth) if isinstance(worth, Sheet) else repr(worth))
                       for name, worth in vars(thing).items()))


def kept(worth):
    """What is compared before and after a call."""
    return shape(worth) if isinstance(worth, (Code, Format, Sheet)) else copy.deepcopy(worth)


class CallTest(unittest.TestCase):
    def samples(self):
        """Pairs of the files whose functions are called, and values for their parameters."""
        forms = ("leastforms", "joining", "comparing", "rows", "sames", "farcounts")
        for one, other in zip(some_formats(12, 91), some_formats(12, 92)):
            yield forms, {
                "one": one, "other": other, "form": one, "many": 6, "length": 4, "state": one.size - 1, "under": 7,
                "pairs": (("a", "b"), ("b", "a")), "thing": ("same", ((1,), (1,)))}
            yield ("leads", "intoleads", "leadtables"), {
                "one": one, "other": other, "depth": 4, "modulus": 1000, "thing": ("parted", (((0,), (1,)),))}
            yield ("numbering", "drawing"), {
                "form": one, "word": "ab", "text": "ba", "length": 3, "number": 2, "many": 3, "by": 2, "one": "a",
                "other": "bb", "tosses": "01101"}
            yield ("rules",), {"form": one, "state": one.size - 1, "thing": ((1,), (1,))}
        for sheet in some_sheets(6, 93) + [TWICE, LAST]:
            yield ("readings", "readingchecks", "leastforms"), {
                "sheet": sheet, "word": "abaa", "many": 6, "thing": ("one", ((0, 1),))}
        for rule, other in zip(some_rules(12, 94), some_rules(12, 95)):
            yield ("rules", "farcounts"), {
                "one": rule, "other": other, "rule": rule, "many": 6, "index": 5, "step": 3, "rest": 1, "under": 7,
                "thing": rule}
        yield ("words",), {"one": "abc", "other": "abd", "thing": "abc"}
        yield ("numbering", "drawing"), {
            "form": NOAA, "word": "bab", "text": "caa", "length": 5, "number": 7, "many": 5, "by": -3, "one": "ab",
            "other": "bbb", "tosses": "0110010011"}
        table = judge_lead(NOAA, NOAA)[1]
        yield ("leads", "leadtables", "intoleads"), {
            "one": NOAA, "other": NOAA, "third": NOAA, "table": table, "further": table, "word": "bab",
            "thing": table}
        for top in (-6, 0, 7):
            yield ("ratios",), {"one": (3, 4), "other": (-5, 6), "top": top, "bottom": -4, "thing": (top, 4)}
        for tree in (((1, 1), (-1, -2)), ((-1, 1), (-2, 0)), ((1, -1), (1, 1))):
            yield ("trees",), {
                "many": 2, "tree": tree, "thing": ("endless", "0"), "depth": 5, "tosses": "0110"}
        for code in CODES:
            yield ("codes", "rests", "lengthcodes"), {
                "code": code, "thing": ("one", ("b",)), "word": "abb", "message": (0,) * (len(code) > 0), "length": 7}
        for letters in (2, 3):
            yield ("totals",), {"letters": letters, "weights": (5, 1, 1, 3), "thing": ((1, 2), (3, 4), (0, 5))}
        yield ("lengthcodes",), {"letters": "ab", "lengths": (2, 1, 3, 3)}
        yield ("totals",), {"code": NEAR, "weights": (3, 4)}
        for one, other in zip(some_formats(12, 97, size=3), some_formats(12, 98, size=3)):
            yield ("remainders", "growth", "growthchecks", "pieces", "crossings"), {
                "form": one, "one": one, "other": other, "under": 6, "many": 9, "most=2000": 300, "rest": 4,
                "length": 10 ** 9, "thing": ("ends", ())}
        for form in (EVENS, ALL, ENDA):
            yield ("shares", "limits"), {
                "form": form, "letters": "ab", "length": 7, "states": tuple(range(form.size)), "thing": ("thin", ("",))}
        yield ("formfindings", "findings"), {"thing": ("word", str(NOAA), "ab")}
        yield ("drawfindings", "findings"), {"thing": ("least", 2, ((-1, -2),))}
        yield ("growthfindings", "findings"), {"thing": ("share", str(NOAA), "ab", 3, 5, 8)}
        for weights in ((1, 2), (0, 7), (5, 0, 3, 3)):
            yield ("tosses",), {
                "many": 5, "tosses": "0110", "weights": weights, "depth": 9, "index": 3, "most": 20}

    def test_calls_change_nothing_and_answer_alike(self):
        called = set()
        for files, sample in self.samples():
            for file in files:
                for text in FUNCTIONS[file]:
                    names = text[text.index("(") + 1:-1].split(", ")
                    if all(name in sample for name in names):
                        self.call(file, text.split("(")[0], {name.split("=")[0]: sample[name] for name in names})
                        called.add(text)
        self.assertEqual(called, {text for told in FUNCTIONS.values() for text in told})

    def call(self, file, name, arguments):
        function = getattr(importlib.import_module("serialhouse." + file), name)
        before = {name: kept(worth) for name, worth in arguments.items()}
        answer = self.answer(function, (), arguments)
        self.assertEqual(self.answer(function, list(arguments.values()), {}), answer)
        self.assertEqual(self.answer(function, (), arguments), answer)
        for name, worth in arguments.items():
            self.assertEqual(kept(worth), before[name])

    def answer(self, function, by_position, by_name):
        try:
            return function(*by_position, **by_name)
        except SerialError as error:
            return error.__class__, vars(error)

    def test_methods_change_nothing(self):
        for form in some_formats(10, 96):
            before = shape(form)
            form.step(0, "a")
            form.led("ab", 0)
            form.has(["a"])
            str(form)
            self.assertTrue(form == Format.read(str(form)))
            form.sheet.goals(0, "a")
            self.assertEqual(shape(form), before)

    def test_methods_by_name(self):
        reader = Reader(code=NEAR)
        self.assertEqual(reader.take(word="aaa"), (0,))
        self.assertEqual(reader.take("b"), (1,))
        self.assertEqual(Code(letters="ab", words=("a", "aab")), NEAR)
        self.assertEqual(shape(reader.code), shape(Code("ab", ("a", "aab"))))
        self.assertIsNone(reader.undo())
