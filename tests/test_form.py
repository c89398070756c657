"""The form of the package's files: those rules of the language that can be seen in a file alone."""

import ast
import builtins
import re
import unittest
from pathlib import Path

PACKAGE = Path(__file__).resolve().parent.parent / "lateshown"
BUILTINS = {
    "len", "range", "enumerate", "zip", "min", "max", "sum", "abs", "sorted", "reversed", "int", "str", "bool", "list",
    "tuple", "dict", "set", "isinstance", "ord", "repr", "any", "all", "divmod", "pow", "iter", "next", "map",
    "staticmethod", "classmethod", "property", "super", "ValueError", "TypeError", "KeyError", "IndexError",
    "LookupError", "ZeroDivisionError", "NotImplemented",
}
METHODS = {
    "append", "clear", "copy", "count", "endswith", "extend", "find", "get", "index", "insert", "isalnum", "isalpha",
    "isdigit", "islower", "isspace", "isupper", "items", "join", "keys", "ljust", "lower", "lstrip", "partition", "pop",
    "remove", "replace", "reverse", "rfind", "rjust", "rpartition", "rsplit", "rstrip", "setdefault", "split",
    "splitlines", "startswith", "strip", "update", "upper", "values", "zfill", "bit_length", "add", "discard",
    "removeprefix", "removesuffix",
}
WORDS = {
    "type", "typing", "enum", "Enum", "Generic", "Protocol", "ABC", "namedtuple", "NamedTuple", "TypedDict",
    "abstractmethod", "register", "mro", "elements", "open", "input", "law", "version_info", "eval", "exec", "compile",
    "globals", "locals", "vars", "dir", "id", "exit", "quit", "help",
}
DUNDERS = {
    "__init__", "__eq__", "__len__", "__contains__", "__getitem__", "__setitem__", "__iter__", "__add__", "__rshift__",
    "__iadd__", "__str__", "__repr__", "__call__", "__bool__",
}
LIBRARY = {"math": {"gcd", "lcm", "isqrt", "comb", "perm", "factorial"}}
STATEMENTS = (ast.FunctionDef, ast.ClassDef, ast.ImportFrom, ast.Assign)


def trees():
    for path in sorted(PACKAGE.rglob("*.py")):
        yield path, ast.parse(path.read_text(encoding="utf-8"))


def is_docstring(node):
    return isinstance(node, ast.Expr) and isinstance(node.value, ast.Constant) and isinstance(node.value.value, str)


def docstrings(tree):
    for node in ast.walk(tree):
        if isinstance(node, (ast.Module, ast.ClassDef, ast.FunctionDef)) and node.body and is_docstring(node.body[0]):
            yield node.body[0].value


def bound_names(tree):
    for node in ast.walk(tree):
        if isinstance(node, ast.Name) and isinstance(node.ctx, ast.Store):
            yield node.id
        elif isinstance(node, ast.arg):
            yield node.arg
        elif isinstance(node, ast.ExceptHandler) and node.name:
            yield node.name


class Files(unittest.TestCase):
    def test_l1_l14_files(self):
        for path in PACKAGE.rglob("*"):
            if "__pycache__" in path.parts or path.is_dir():
                continue
            self.assertRegex(path.name, r"^(__init__|[a-z][a-z0-9_]*)\.py$")
            self.assertRegex(path.read_bytes(), rb"\A[\n -~]*\Z", path.name)

    def test_l10_size(self):
        for path, tree in trees():
            rows = path.read_text(encoding="utf-8").splitlines()
            self.assertLessEqual(len(rows), 399, path.name)
            self.assertLessEqual(max(map(len, rows)), 120, path.name)
            for node in ast.walk(tree):
                if isinstance(node, ast.FunctionDef):
                    self.assertLessEqual(node.end_lineno - node.lineno + 1, 40, node.name)

    def test_l2_l16_imports(self):
        above = {}
        for path, tree in trees():
            above[path.stem] = set()
            for node in ast.walk(tree):
                self.assertNotIsInstance(node, ast.Import)
                if isinstance(node, ast.ImportFrom) and node.module in LIBRARY:
                    self.check_library(node, tree)
                elif isinstance(node, ast.ImportFrom):
                    self.check_import(node, tree)
                    above[path.stem].add(node.module.partition(".")[2])
        while above:
            first = [name for name, needed in above.items() if not needed & set(above)]
            self.assertTrue(first, "files import from each other")
            for name in first:
                del above[name]

    def check_import(self, node, tree):
        self.assertEqual(node.level, 0)
        self.assertIn(node, tree.body)
        self.assertRegex(node.module, r"^lateshown\.[a-z]+$")
        own = ast.parse((PACKAGE / (node.module.partition(".")[2] + ".py")).read_text(encoding="utf-8"))
        defined = {part.name for part in own.body if isinstance(part, (ast.FunctionDef, ast.ClassDef))}
        defined |= {part.targets[0].id for part in own.body if isinstance(part, ast.Assign)}
        for alias in node.names:
            self.assertIn(alias.name, defined)

    def check_library(self, node, tree):
        self.assertIn(node, tree.body)
        called = {part.func for part in ast.walk(tree) if isinstance(part, ast.Call) and not part.keywords}
        inside = {part for own in ast.walk(tree) if isinstance(own, ast.FunctionDef) for part in ast.walk(own)}
        for alias in node.names:
            self.assertIn(alias.name, LIBRARY[node.module])
            self.assertIsNone(alias.asname)
            for part in ast.walk(tree):
                if isinstance(part, ast.Name) and part.id == alias.name:
                    self.assertTrue(part in called and part in inside, alias.name)

    def test_l3_l15_module_level(self):
        for path, tree in trees():
            names = []
            for node in tree.body:
                self.assertTrue(isinstance(node, STATEMENTS) or is_docstring(node), path.name)
                if isinstance(node, ast.Assign):
                    self.assertEqual(len(node.targets), 1)
                    self.check_value(node.value, tree)
                    names.append(node.targets[0].id)
                elif isinstance(node, ast.ImportFrom):
                    names.extend(alias.asname or alias.name for alias in node.names)
                elif not is_docstring(node):
                    names.append(node.name)
            self.assertEqual(sorted(names), sorted(set(names)), path.name)


    def check_value(self, value, tree):
        """A plain value, or a dict of functions that are defined above."""
        if isinstance(value, ast.Dict) and any(isinstance(part, ast.Name) for part in value.values):
            above = {node.name for node in tree.body if isinstance(node, ast.FunctionDef) and node.lineno < value.lineno}
            self.assertLessEqual({part.id for part in value.values}, above)
            value = ast.Tuple(value.keys)
        plain = ast.literal_eval(value)
        for part in plain.values() if isinstance(plain, dict) else plain if isinstance(plain, (list, tuple)) else ():
            self.assertNotIsInstance(part, (list, dict))


class Names(unittest.TestCase):
    def test_l8_l15_builtins(self):
        known = set(dir(builtins))
        for path, tree in trees():
            for node in ast.walk(tree):
                if isinstance(node, ast.Name) and isinstance(node.ctx, ast.Load) and node.id in known:
                    self.assertIn(node.id, BUILTINS, path.name)
                if isinstance(node, (ast.FunctionDef, ast.ClassDef)):
                    self.assertNotIn(node.name, known, path.name)
            for name in bound_names(tree):
                self.assertNotIn(name, known, path.name)

    def test_l15_no_local_name_hides_a_class_or_an_import(self):
        for path, tree in trees():
            taken = {node.name for node in tree.body if isinstance(node, ast.ClassDef)}
            for node in tree.body:
                if isinstance(node, ast.ImportFrom):
                    taken |= {alias.name for alias in node.names}
            for name in bound_names(tree):
                self.assertNotIn(name, taken, path.name)

    def test_l12_l17_words(self):
        for path, tree in trees():
            for name in bound_names(tree):
                self.assertRegex(name, r"^(_|_?[A-Za-z][A-Za-z0-9_]*)$", path.name)
            skipped = set(map(id, docstrings(tree)))
            for node in ast.walk(tree):
                words = [getattr(node, part, None) for part in ("id", "attr", "arg", "name")]
                if isinstance(node, ast.Constant) and isinstance(node.value, str) and id(node) not in skipped:
                    words.extend(re.findall(r"\w+", node.value))
                self.assertFalse(WORDS & {word for word in words if isinstance(word, str)}, path.name)

    def test_l25_methods(self):
        own = set()
        for _, tree in trees():
            own |= {node.name for node in ast.walk(tree) if isinstance(node, ast.FunctionDef)}
        for path, tree in trees():
            for node in ast.walk(tree):
                if isinstance(node, ast.Call) and isinstance(node.func, ast.Attribute):
                    self.assertIn(node.func.attr, METHODS | own, path.name)


class Expressions(unittest.TestCase):
    def test_l7_l20_l27_values_and_signs(self):
        for path, tree in trees():
            skipped = set(map(id, docstrings(tree)))
            for node in ast.walk(tree):
                at = (path.name, getattr(node, "lineno", None))
                if isinstance(node, ast.Constant):
                    self.assertNotIsInstance(node.value, (float, complex), at)
                    if isinstance(node.value, str) and id(node) not in skipped:
                        self.assertNotIn("%", node.value, at)
                self.assertNotIsInstance(node, (ast.Div, ast.AsyncFor, ast.AsyncFunctionDef), at)
                if isinstance(node, ast.Compare):
                    for sign, side in zip(node.ops, node.comparators):
                        if isinstance(sign, (ast.Is, ast.IsNot)):
                            self.assertTrue(isinstance(side, ast.Constant) and side.value in (None, True, False), at)

    def test_l27_exponents_are_literals(self):
        for path, tree in trees():
            for node in ast.walk(tree):
                if isinstance(node, ast.BinOp) and isinstance(node.op, ast.Pow):
                    self.assertTrue(isinstance(node.right, ast.Constant) and 0 <= node.right.value <= 64, path.name)

    def test_l12_underscores_are_never_read(self):
        for path, tree in trees():
            for node in ast.walk(tree):
                if isinstance(node, ast.Name) and node.id == "_":
                    self.assertIsInstance(node.ctx, ast.Store, (path.name, node.lineno))

    def test_l5_l25_what_is_reversed_and_sorted(self):
        for path, tree in trees():
            for node in ast.walk(tree):
                if isinstance(node, ast.Call) and isinstance(node.func, ast.Attribute):
                    self.assertNotEqual(node.func.attr, "sort", path.name)
                    self.assertFalse(node.func.attr in METHODS and node.keywords, (path.name, node.lineno))
                if isinstance(node, ast.Call) and isinstance(node.func, ast.Name) and node.func.id == "reversed":
                    self.assertIn(getattr(getattr(node.args[0], "func", None), "id", None),
                                  ("list", "tuple", "sorted", "range"), path.name)

    def test_l7_what_compares_takes_lists(self):
        for path, tree in trees():
            for node in ast.walk(tree):
                if isinstance(node, ast.Call) and isinstance(node.func, ast.Name):
                    if node.func.id in ("any", "all", "min", "max", "sum", "sorted"):
                        for part in node.args:
                            self.assertNotIsInstance(part, ast.GeneratorExp, (path.name, node.lineno))

    def test_l24_sets_stand_where_they_are_used(self):
        for path, tree in trees():
            inside = {part for node in ast.walk(tree) for part in self.places_for_sets(node)}
            for node in ast.walk(tree):
                call = isinstance(node, ast.Call) and isinstance(node.func, ast.Name) and node.func.id == "set"
                if call or isinstance(node, (ast.Set, ast.SetComp)):
                    self.assertIn(node, inside, (path.name, node.lineno))

    def places_for_sets(self, node):
        if isinstance(node, ast.Call) and isinstance(node.func, ast.Name) and node.func.id in ("sorted", "len"):
            for part in node.args:
                yield part
                while isinstance(part, ast.BinOp) and isinstance(part.op, (ast.Sub, ast.BitAnd, ast.BitOr, ast.BitXor)):
                    yield part.right
                    part = part.left
                    yield part
        if isinstance(node, ast.Compare):
            yield from node.comparators
        if isinstance(node, ast.Assign):
            yield node.value


    def test_l23_there_are_no_generators(self):
        for path, tree in trees():
            for node in ast.walk(tree):
                self.assertNotIsInstance(node, (ast.GeneratorExp, ast.Yield, ast.YieldFrom), path.name)

    def test_l6_statements(self):
        for path, tree in trees():
            for node in ast.walk(tree):
                if isinstance(node, ast.stmt):
                    self.assertIsInstance(node, (
                        ast.FunctionDef, ast.ClassDef, ast.ImportFrom, ast.Assign, ast.AugAssign, ast.If, ast.While,
                        ast.For, ast.Return, ast.Break, ast.Raise, ast.Try, ast.Expr), (path.name, node.lineno))

    def test_l4_l7_stars_and_decorators(self):
        for path, tree in trees():
            for node in ast.walk(tree):
                if isinstance(node, ast.Starred):
                    self.assertIsInstance(node.value, (ast.Name, ast.Attribute), (path.name, node.lineno))
                if isinstance(node, ast.FunctionDef):
                    for part in node.decorator_list:
                        self.assertIn(part.id, ("property", "staticmethod"), path.name)
                    self.assertEqual((node.returns, node.args.kwarg, node.args.kwonlyargs), (None, None, []), path.name)

    def test_l22_keywords_of_builtins(self):
        known = {"sorted": {"key", "reverse"}, "min": {"key", "default"}, "max": {"key", "default"}}
        for path, tree in trees():
            for node in ast.walk(tree):
                if isinstance(node, ast.Call) and isinstance(node.func, ast.Name) and node.func.id in BUILTINS:
                    named = {part.arg for part in node.keywords}
                    self.assertLessEqual(named, known.get(node.func.id, set()), (path.name, node.lineno))

    def test_l27_strings(self):
        for path, tree in trees():
            for node in ast.walk(tree):
                if isinstance(node, ast.Constant) and isinstance(node.value, str):
                    self.assertFalse(node.value.endswith(("._", ".__")), path.name)
                    self.assertNotRegex(node.value, r"\A__|__\Z", path.name)


class Classes(unittest.TestCase):
    def test_l5_l18_methods(self):
        for path, tree in trees():
            for node in tree.body:
                if isinstance(node, ast.ClassDef):
                    self.assertEqual(node.decorator_list, [])
                    methods = [part.name for part in node.body if isinstance(part, ast.FunctionDef)]
                    self.assertEqual(sorted(methods), sorted(set(methods)), node.name)
                    for name in methods:
                        self.assertTrue(name in DUNDERS or not name.startswith("__"), name)
                    self.assertIs("__getitem__" in methods, "__iter__" in methods, node.name)

    def test_l5_operators_and_properties_run_no_sign_that_changes(self):
        bodies, new = {}, []
        for _, tree in trees():
            for node in ast.walk(tree):
                if isinstance(node, ast.FunctionDef):
                    bodies.setdefault(node.name, []).append(node)
                    own = node.name.startswith("__") and node.name not in ("__init__", "__iadd__", "__setitem__")
                    if own or any(part.id == "property" for part in node.decorator_list):
                        new.append(node)
                elif isinstance(node, ast.ClassDef):
                    # To call a class is to call this.
                    bodies[node.name] = [part for part in node.body if getattr(part, "name", "") == "__init__"]
        done = set()
        while new:
            node = new.pop()
            if node in done:
                continue
            done.add(node)
            for part in ast.walk(node):
                self.assertNotIsInstance(part, (ast.AugAssign, ast.Delete, ast.Try), (node.name, part))
                if isinstance(part, ast.Call):
                    new.extend(bodies.get(getattr(part.func, "id", getattr(part.func, "attr", "")), ()))
        names = {node.name for node in done}
        self.assertTrue({"is_run", "same_plans", "table_of", "tupled", "numbered", "plan_in"} <= names)

    def test_l28_lengths(self):
        for path, tree in trees():
            for node in ast.walk(tree):
                if isinstance(node, ast.FunctionDef) and node.name == "__len__":
                    self.assertEqual([part.value.func.id for part in ast.walk(node) if isinstance(part, ast.Return)], ["len"])

    def test_l19_caught_errors_are_own_ones(self):
        errors = ast.parse((PACKAGE / "errors.py").read_text(encoding="utf-8"))
        own = {node.name for node in errors.body if isinstance(node, ast.ClassDef)}
        for path, tree in trees():
            for node in ast.walk(tree):
                if isinstance(node, ast.Try):
                    self.assertEqual((node.finalbody, node.orelse), ([], []), path.name)
                    caught = [part.name for part in node.handlers if part.name]
                    self.assertEqual(sorted(caught), sorted(set(caught)), path.name)
                if isinstance(node, ast.ExceptHandler):
                    kinds = node.type.elts if isinstance(node.type, ast.Tuple) else [node.type]
                    self.assertLessEqual({part.id for part in kinds}, own, (path.name, node.lineno))

    def test_l19_raised_errors_are_made_on_the_spot(self):
        for path, tree in trees():
            for node in ast.walk(tree):
                if isinstance(node, ast.Raise):
                    self.assertTrue(node.exc is None or isinstance(node.exc, ast.Call), (path.name, node.lineno))


if __name__ == "__main__":
    unittest.main()
