"""The interface: names, parameters, where they are defined; and that calls change nothing and answer alike."""

import ast
import copy
import importlib
import inspect
import pathlib
import unittest

from serialhouse.formats import Format
from serialhouse.sheets import Sheet
from tests.helper import LAST, NOAA, TWICE, some_formats, some_rules, some_sheets

PACKAGE = pathlib.Path(__file__).parent.parent / "serialhouse"

FUNCTIONS = {
    "words": ("is_word(thing)", "is_ahead(one, other)", "common_beginning(one, other)"),
    "leastforms": ("format_of(sheet)", "least_form(form)"),
    "joining": ("both(one, other)", "either(one, other)", "without(one, other)", "behind(one, other)", "again(form)",
                "backward(form)", "renamed(form, pairs)"),
    "comparing": ("is_same(one, other)", "first_apart(one, other)", "is_within(one, other)", "first_word(form)"),
    "readings": ("readings(sheet, word)", "count_readings(sheet, word)", "reading_counts(sheet, many)",
                 "judge_readings(sheet)", "is_read_in_one(sheet)"),
    "readingchecks": ("readings_hold(sheet, thing)",),
    "rows": ("counts(form, many)", "count(form, length)", "count_from(form, state, length)",
             "counts_by_state(form, length)"),
    "rules": ("is_rule(thing)", "terms(rule, many)", "term(rule, index)", "least(rule)", "least_rule(form)",
              "least_rule_from(form, state)", "obeys(form, thing)", "added(one, other)", "lessened(one, other)",
              "timed(one, other)", "met(one, other)", "summed(rule)", "part(rule, step, rest)"),
    "sames": ("have_same_rows(one, other)", "judge_rows(one, other)", "rows_hold(one, other, thing)",
              "first_unlike(one, other)"),
    "farcounts": ("count_left(form, length, under)", "term_left(rule, index, under)")}
CLASSES = {
    ("sheets", "Sheet"): ("__init__(self, size, moves, ends)", "goals(self, state, letter)", "__eq__(self, other)",
                          "__str__(self)", "read(text)"),
    ("formats", "Format"): ("__init__(self, size, moves, ends)", "step(self, state, letter)",
                            "led(self, word, state=0)", "has(self, thing)", "__eq__(self, other)", "__str__(self)",
                            "read(text)")}


class InterfaceTest(unittest.TestCase):
    def test_functions(self):
        for file, told in FUNCTIONS.items():
            module = importlib.import_module("serialhouse." + file)
            defined = [node.name for node in ast.parse((PACKAGE / (file + ".py")).read_text()).body
                       if isinstance(node, ast.FunctionDef)]
            for text in told:
                name = text.split("(")[0]
                self.assertIn(name, defined)
                self.assertEqual(name + str(inspect.signature(getattr(module, name))), text)

    def test_classes(self):
        for (file, name), told in CLASSES.items():
            made = getattr(importlib.import_module("serialhouse." + file), name)
            self.assertEqual(made.__module__, "serialhouse." + file)
            for text in told:
                method = text.split("(")[0]
                self.assertIn(method, vars(made))
                self.assertEqual(method + str(inspect.signature(getattr(made, method))), text)

    def test_only_modules_with_all_of_their_names(self):
        for file in list(FUNCTIONS) + ["sheets", "formats", "errors"]:
            self.assertTrue((PACKAGE / (file + ".py")).is_file())


def shape(thing):
    """All that an object holds, as plain values, to be compared."""
    return repr(sorted((name, shape(worth) if isinstance(worth, Sheet) else repr(worth))
                       for name, worth in vars(thing).items()))


class CallTest(unittest.TestCase):
    def samples(self):
        for one, other in zip(some_formats(12, 91), some_formats(12, 92)):
            yield {"one": one, "other": other, "form": one, "many": 6, "length": 4, "state": one.size - 1, "under": 7,
                   "pairs": (("a", "b"), ("b", "a")), "thing": ("same", ((1,), (1,)))}
        for sheet in some_sheets(6, 93) + [TWICE, LAST]:
            yield {"sheet": sheet, "word": "abaa", "many": 6, "thing": ("one", ((0, 1),))}
        for rule, other in zip(some_rules(12, 94), some_rules(12, 95)):
            yield {"one": rule, "other": other, "rule": rule, "many": 6, "index": 5, "step": 3, "rest": 1, "under": 7,
                   "thing": rule}
        yield {"one": "abc", "other": "abd", "thing": "abc"}
        yield {"form": NOAA, "thing": [[{"a": [1]}], {0: [None]}]}

    def can_take(self, name, arguments, file):
        kinds = {"words": str, "rules": tuple}
        if "one" in arguments:
            return isinstance(arguments["one"], kinds.get(file, Format))
        return True

    def test_calls_change_nothing_and_answer_alike(self):
        called = set()
        for sample in self.samples():
            for file, told in FUNCTIONS.items():
                for text in told:
                    names = text[text.index("(") + 1:-1].split(", ")
                    if not all(name in sample for name in names):
                        continue
                    arguments = {name: sample[name] for name in names}
                    if not self.can_take(text, arguments, file):
                        continue
                    function = getattr(importlib.import_module("serialhouse." + file), text.split("(")[0])
                    before = {name: shape(worth) if isinstance(worth, (Format, Sheet)) else copy.deepcopy(worth)
                              for name, worth in arguments.items()}
                    answer = function(**arguments)
                    self.assertEqual(function(*[arguments[name] for name in names]), answer)
                    self.assertEqual(function(**arguments), answer)
                    for name, worth in arguments.items():
                        now = shape(worth) if isinstance(worth, (Format, Sheet)) else worth
                        self.assertEqual(now, before[name])
                    called.add(text)
        self.assertEqual(called, {text for told in FUNCTIONS.values() for text in told})

    def test_methods_change_nothing(self):
        for form in some_formats(10, 96):
            before = shape(form)
            form.step(0, "a")
            form.led("ab", 0)
            form.has(["a"])
            str(form)
            self.assertTrue(form == Format.read(str(form)))
            form.sheet.goals(0, "a")
            self.assertEqual(shape(form), before)
