"""The rules of the language that can be read off the files of the package (LANGUAGE.md, by their numbers)."""

import ast
import builtins
import pathlib
import unittest

PACKAGE = pathlib.Path(__file__).parent.parent / "serialhouse"
FILES = {path.stem: path.read_text() for path in sorted(PACKAGE.glob("*.py"))}
TREES = {name: ast.parse(text) for name, text in FILES.items()}

BUILTINS = set("""len range enumerate zip min max sum abs sorted reversed int str bool list tuple dict set frozenset
    isinstance ord repr any all divmod Exception ValueError TypeError KeyError IndexError LookupError map iter next
    ZeroDivisionError ArithmeticError OverflowError RuntimeError NotImplementedError super NotImplemented property
    staticmethod classmethod""".split())
METHODS = set("""append clear copy count endswith extend find get index insert isalnum isalpha isdigit islower isspace
    isupper items join keys ljust lower lstrip partition pop remove replace reverse rfind rjust rpartition rsplit rstrip
    setdefault split splitlines startswith strip update upper values zfill bit_length isascii isdecimal add
    discard""".split())
LIBRARY = {"heapq": {"heappush", "heappop", "heapify", "heapreplace", "heappushpop"},
           "math": {"gcd", "lcm", "isqrt", "comb", "perm", "factorial"},
           "itertools": {"product", "combinations", "permutations"}}
SPECIAL = set("""__init__ __eq__ __repr__ __str__ __len__ __call__ __iter__ __contains__ __and__ __or__ __sub__
    __invert__""".split())
BARRED = {"register", "mro", "elements", "open", "input", "law", "version_info", "with_traceback", "add_note"}
STATEMENTS = (ast.Assign, ast.AugAssign, ast.If, ast.While, ast.For, ast.Return, ast.Break, ast.Continue, ast.Pass,
              ast.Raise, ast.Assert, ast.Delete, ast.Nonlocal, ast.Match, ast.With, ast.Try, ast.Expr,
              ast.FunctionDef, ast.ClassDef, ast.ImportFrom, ast.AnnAssign)


def names_bound(tree):
    """The names that functions and comprehensions of a tree assign, their parameters too."""
    bound = {node.id for node in ast.walk(tree) if isinstance(node, ast.Name) and not isinstance(node.ctx, ast.Load)}
    bound |= {node.arg for node in ast.walk(tree) if isinstance(node, ast.arg)}
    return bound | {node.name for node in ast.walk(tree) if isinstance(node, (ast.FunctionDef, ast.ClassDef))}


def parents(tree):
    return {child: node for node in ast.walk(tree) for child in ast.iter_child_nodes(node)}


def is_call_of(node, names):
    return isinstance(node, ast.Call) and isinstance(node.func, ast.Name) and node.func.id in names


class FileTest(unittest.TestCase):
    def test_folder(self):
        for path in PACKAGE.iterdir():
            self.assertTrue(path.suffix == ".py" and path.is_file() or path.name == "__pycache__", path)
        self.assertIn("__init__", FILES)
        self.assertLessEqual(len(FILES), 100)
        for name in FILES:
            self.assertNotIn(name, dir(builtins))
            self.assertEqual(name, name.lower())
            self.assertFalse(name.startswith(("test", "law_")))

    def test_characters_and_lengths(self):
        for name, text in FILES.items():
            self.assertTrue(all(sign == "\n" or " " <= sign <= "~" for sign in text), name)
            lines = text.split("\n")
            self.assertLessEqual(len(lines), 399, name)
            self.assertLessEqual(max(map(len, lines)), 120, name)
            self.assertTrue(text.endswith("\n") and not text.endswith("\n\n"), name)

    def test_functions_are_small(self):
        for name, tree in TREES.items():
            for node in ast.walk(tree):
                if isinstance(node, ast.FunctionDef):
                    self.assertLessEqual(node.end_lineno - node.lineno + 1, 40, (name, node.name))

    def test_docstrings(self):
        for name, tree in TREES.items():
            self.assertIsNotNone(ast.get_docstring(tree), name)
            for node in tree.body:
                if isinstance(node, (ast.FunctionDef, ast.ClassDef)):
                    self.assertIsNotNone(ast.get_docstring(node), (name, node.name))


class ImportTest(unittest.TestCase):
    def test_imports(self):
        for name, tree in TREES.items():
            for node in ast.walk(tree):
                self.assertNotIsInstance(node, ast.Import)
                if not isinstance(node, ast.ImportFrom):
                    continue
                self.assertIn(node, tree.body)
                self.assertEqual(node.level, 0)
                self.assertTrue(all(alias.asname is None for alias in node.names))
                names = {alias.name for alias in node.names}
                if node.module in LIBRARY:
                    self.assertTrue(names <= LIBRARY[node.module])
                    continue
                package, _, file = node.module.partition(".")
                self.assertEqual(package, "serialhouse")
                defined = {part.name for part in TREES[file].body if isinstance(part, (ast.FunctionDef, ast.ClassDef))}
                defined |= {target.id for part in TREES[file].body if isinstance(part, ast.Assign)
                            for target in part.targets}
                self.assertTrue(names <= defined, (name, names - defined))

    def test_no_two_files_import_from_each_other(self):
        needs = {name: {node.module.split(".")[1] for node in tree.body if isinstance(node, ast.ImportFrom)
                        and node.module.startswith("serialhouse.")} for name, tree in TREES.items()}
        while needs:
            free = [name for name, others in needs.items() if not others & set(needs)]
            self.assertTrue(free, needs)
            for name in free:
                del needs[name]

    def test_imports_are_used_and_not_hidden(self):
        for name, tree in TREES.items():
            imported = {alias.name for node in tree.body if isinstance(node, ast.ImportFrom) for alias in node.names}
            used = {node.id for node in ast.walk(tree) if isinstance(node, ast.Name)}
            self.assertEqual(imported - used, set(), name)
            self.assertEqual(imported & names_bound(tree), set(), name)


class NameTest(unittest.TestCase):
    def test_names(self):
        for name, tree in TREES.items():
            bound = names_bound(tree)
            self.assertEqual(bound & set(dir(builtins)), set(), name)
            self.assertEqual(bound & BARRED, set(), name)
            for each in bound - SPECIAL:
                self.assertFalse(each.startswith("__") or each.startswith("_wall"), (name, each))
            functions = {node.name for node in tree.body if isinstance(node, (ast.FunctionDef, ast.ClassDef))}
            inner = {node.id for node in ast.walk(tree) if isinstance(node, ast.Name)
                     and isinstance(node.ctx, ast.Store)} | {node.arg for node in ast.walk(tree)
                                                             if isinstance(node, ast.arg)}
            self.assertEqual(functions & inner, set(), name)

    def test_builtins(self):
        for name, tree in TREES.items():
            imported = {alias.name for node in tree.body if isinstance(node, ast.ImportFrom) for alias in node.names}
            used = {node.id for node in ast.walk(tree) if isinstance(node, ast.Name) and isinstance(node.ctx, ast.Load)}
            self.assertEqual(used - imported - names_bound(tree) - BUILTINS, set(), name)

    def test_methods(self):
        own = {node.name for tree in TREES.values() for node in ast.walk(tree) if isinstance(node, ast.FunctionDef)}
        for name, tree in TREES.items():
            for node in ast.walk(tree):
                if isinstance(node, ast.Call) and isinstance(node.func, ast.Attribute):
                    self.assertIn(node.func.attr, METHODS | own, name)
                if isinstance(node, ast.ClassDef):
                    methods = {part.name for part in node.body if isinstance(part, ast.FunctionDef)}
                    stored = {part.attr for part in ast.walk(node) if isinstance(part, ast.Attribute)
                              and isinstance(part.ctx, ast.Store)}
                    self.assertEqual(methods & stored, set(), (name, node.name))
                    plain = {method for method in methods if method.startswith("__")}
                    self.assertTrue(plain <= SPECIAL, (name, node.name))


class ExpressionTest(unittest.TestCase):
    def test_statements(self):
        for name, tree in TREES.items():
            for node in ast.walk(tree):
                if isinstance(node, ast.stmt):
                    self.assertIsInstance(node, STATEMENTS, (name, node.lineno))
                if isinstance(node, ast.FunctionDef):
                    for decorator in node.decorator_list:
                        self.assertIn(decorator.id, ("classmethod", "staticmethod", "property"))

    def test_numbers_and_strings(self):
        for name, tree in TREES.items():
            for node in ast.walk(tree):
                if isinstance(node, ast.Constant):
                    self.assertNotIsInstance(node.value, (float, complex, bytes), (name, node.lineno))
                    if isinstance(node.value, str):
                        self.assertNotIn("%", node.value, (name, node.lineno))
                if isinstance(node, ast.BinOp):
                    self.assertNotIsInstance(node.op, (ast.Div, ast.MatMult), (name, node.lineno))
                    if isinstance(node.op, ast.Pow):
                        self.assertIn(node.right.value, range(65), (name, node.lineno))
                if isinstance(node, ast.Compare):
                    for op, side in zip(node.ops, node.comparators):
                        if isinstance(op, (ast.Is, ast.IsNot)):
                            self.assertIn(side.value, (None, True, False), (name, node.lineno))

    def test_what_takes_a_list(self):
        for name, tree in TREES.items():
            above = parents(tree)
            for node in ast.walk(tree):
                if isinstance(node, ast.GeneratorExp):
                    self.assertTrue(is_call_of(above[node], {"list", "tuple", "dict"}), (name, node.lineno))
                if is_call_of(node, {"zip", "enumerate", "reversed"}):
                    self.assertTrue(isinstance(above[node], (ast.For, ast.comprehension))
                                    or is_call_of(above[node], {"list", "tuple", "enumerate", "sorted"}),
                                    (name, node.lineno))

    def test_sets(self):
        for name, tree in TREES.items():
            above = parents(tree)
            for node in ast.walk(tree):
                if isinstance(node, (ast.Set, ast.SetComp)) or is_call_of(node, {"set"}):
                    self.assertTrue(is_call_of(above[node], {"sorted", "len"}), (name, node.lineno))

    def test_lambdas_on_one_line(self):
        for name, tree in TREES.items():
            seen = set()
            for node in ast.walk(tree):
                if isinstance(node, ast.Lambda):
                    key = (node.lineno, tuple(arg.arg for arg in node.args.args))
                    self.assertNotIn(key, seen, name)
                    seen.add(key)

    def test_loops_change_nothing_they_go_over(self):
        for name, tree in TREES.items():
            for node in ast.walk(tree):
                if isinstance(node, ast.For):
                    gone_over = {part.id for part in ast.walk(node.iter) if isinstance(part, ast.Name)}
                    for part in [below for row in node.body for below in ast.walk(row)]:
                        if isinstance(part, ast.Call) and isinstance(part.func, ast.Attribute) and isinstance(
                                part.func.value, ast.Name) and part.func.attr in ("append", "pop", "extend", "clear"):
                            self.assertNotIn(part.func.value.id, gone_over, (name, node.lineno))
                        if isinstance(part, ast.Subscript) and not isinstance(part.ctx, ast.Load) and isinstance(
                                part.value, ast.Name):
                            self.assertNotIn(part.value.id, gone_over, (name, node.lineno))


RUN_BY_SIGNS = SPECIAL - {"__init__", "__call__", "__iter__"}
CHANGING = {"append", "extend", "insert", "pop", "remove", "clear", "update", "setdefault", "reverse", "add", "discard",
            "sort"}


def functions_by_name():
    told = {}
    for tree in TREES.values():
        for node in ast.walk(tree):
            if isinstance(node, ast.FunctionDef):
                told.setdefault(node.name, []).append(node)
    return told


def made_lists(function):
    """The local names that are assigned lists made by this function, and nothing else."""
    made, other = set(), set()
    for node in ast.walk(function):
        if isinstance(node, ast.Assign):
            is_made = isinstance(node.value, (ast.List, ast.ListComp)) or is_call_of(node.value, {"list", "sorted"})
            for target in node.targets:
                for part in ast.walk(target):
                    if isinstance(part, ast.Name):
                        (made if is_made and part is target else other).add(part.id)
    return made - other


class SignTest(unittest.TestCase):
    """What signs run (operators, ==, str, len) changes nothing, and calls nothing that it is passed."""

    def run_by_signs(self):
        functions = functions_by_name()
        classes = {node.name: node for tree in TREES.values() for node in tree.body if isinstance(node, ast.ClassDef)}
        met = {}
        waiting = [node for name in RUN_BY_SIGNS for node in functions.get(name, [])]
        while waiting:
            function = waiting.pop()
            if id(function) in met:
                continue
            met[id(function)] = function
            for node in ast.walk(function):
                if isinstance(node, ast.Call):
                    name = node.func.id if isinstance(node.func, ast.Name) else getattr(node.func, "attr", "")
                    if name in classes:
                        waiting += [part for part in classes[name].body if getattr(part, "name", "") == "__init__"]
                    elif name not in METHODS:
                        waiting += functions.get(name, [])
        return list(met.values())

    def test_nothing_is_changed(self):
        functions = self.run_by_signs()
        self.assertIn("joined_lengths", [function.name for function in functions])
        self.assertIn("figures_of", [function.name for function in functions])
        for function in functions:
            made = made_lists(function)
            parameters = {arg.arg for arg in function.args.args}
            for node in ast.walk(function):
                if isinstance(node, (ast.Attribute, ast.Subscript)) and not isinstance(node.ctx, ast.Load):
                    self.assertTrue(function.name == "__init__" and node.value.id == "self", (function.name, node.lineno))
                if isinstance(node, ast.AugAssign):
                    self.assertTrue(isinstance(node.target, ast.Name) and (
                        isinstance(node.op, ast.Sub) or isinstance(node.value, ast.Constant)), (function.name, node.lineno))
                if isinstance(node, ast.Call) and isinstance(node.func, ast.Attribute) and node.func.attr in CHANGING:
                    self.assertIn(getattr(node.func.value, "id", None), made, (function.name, node.lineno))
                if isinstance(node, ast.Call) and isinstance(node.func, ast.Name):
                    self.assertNotIn(node.func.id, parameters - {"cls"}, (function.name, node.lineno))


class AttributeTest(unittest.TestCase):
    def test_no_name_is_a_method_and_an_attribute(self):
        methods, stored = set(), set()
        for tree in TREES.values():
            for node in ast.walk(tree):
                if isinstance(node, ast.ClassDef):
                    methods |= {part.name for part in node.body if isinstance(part, ast.FunctionDef)}
                if isinstance(node, ast.Attribute) and isinstance(node.ctx, ast.Store):
                    stored.add(node.attr)
        self.assertEqual(methods & stored, set())
