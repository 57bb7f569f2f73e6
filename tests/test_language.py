"""The part of the language that the package keeps to, as far as it can be seen by a reading of its files."""

import ast
import pathlib
import re
import unittest

PACKAGE = pathlib.Path(__file__).resolve().parent.parent / "whatcanbedesk"
STATEMENTS = (
    ast.Assign, ast.AugAssign, ast.If, ast.While, ast.For, ast.Return, ast.Break, ast.Continue, ast.Pass, ast.Raise,
    ast.Try, ast.Expr, ast.FunctionDef,
)
OWN_METHODS = (
    "append", "bit_length", "clear", "extend", "get", "index", "insert", "items", "pop", "remove", "reverse",
)
PYTHONS_OWN = (
    "len", "range", "enumerate", "zip", "min", "max", "sum", "abs", "sorted", "reversed", "int", "list", "tuple",
    "dict", "any", "all", "divmod", "True", "False", "None",
)
WORDS = re.compile(
    r"\b(type|typing|typing_extensions|enum|Enum|IntEnum|StrEnum|Flag|IntFlag|Generic|Protocol|ABC|ABCMeta|namedtuple"
    r"|NamedTuple|TypedDict|TYPE_CHECKING|abstractmethod)\b|dataclass|overload|contextmanager"
)


def files():
    return [file for file in sorted(PACKAGE.rglob("*")) if "__pycache__" not in file.parts]


def defs_of(tree):
    return [node for node in ast.walk(tree) if isinstance(node, ast.FunctionDef)]


def bound_names(tree):
    names = set(PYTHONS_OWN)
    for node in ast.walk(tree):
        if isinstance(node, ast.Name) and isinstance(node.ctx, ast.Store):
            names.add(node.id)
        elif isinstance(node, ast.arg):
            names.add(node.arg)
        elif isinstance(node, (ast.FunctionDef, ast.ClassDef)):
            names.add(node.name)
        elif isinstance(node, ast.alias):
            names.add(node.name)
    return names


class Language(unittest.TestCase):
    def setUp(self):
        self.trees = {file.name: ast.parse(file.read_text("utf-8")) for file in files()}

    def test_files(self):
        for file in files():
            self.assertRegex(file.name, r"\A[a-z_][a-z0-9_]*\.py\Z")
        self.assertIn("__init__.py", self.trees)
        self.assertIn("facts.py", self.trees)

    def test_signs_and_sizes(self):
        for file in files():
            text = file.read_text("utf-8")
            self.assertRegex(text, r"\A[ -~\n]*\Z")
            self.assertIsNone(WORDS.search(text))
            self.assertLessEqual(len(text.splitlines()), 400)
            self.assertLessEqual(max(len(line) for line in text.splitlines()), 120)
        for tree in self.trees.values():
            for node in defs_of(tree):
                self.assertLessEqual(node.end_lineno - node.lineno + 1, 40)

    def test_imports_are_the_packages_own(self):
        for tree in self.trees.values():
            for node in ast.walk(tree):
                self.assertNotIsInstance(node, ast.Import)
                if isinstance(node, ast.ImportFrom):
                    self.assertEqual((node.level, node.module.split(".")[0]), (0, "whatcanbedesk"))

    def test_statements(self):
        for tree in self.trees.values():
            for node in defs_of(tree):
                for inner in ast.walk(node):
                    if isinstance(inner, ast.stmt):
                        self.assertIsInstance(inner, STATEMENTS)
                    if isinstance(inner, ast.Expr):
                        self.assertIsInstance(inner.value, ast.Call)
                    if isinstance(inner, (ast.While, ast.For)):
                        self.assertEqual(inner.orelse, [])
                self.assertEqual(node.decorator_list, [])

    def test_names(self):
        for tree in self.trees.values():
            known = bound_names(tree)
            for node in ast.walk(tree):
                if isinstance(node, ast.Name):
                    self.assertIn(node.id, known)
            for name in known:
                self.assertRegex(name, r"\A([A-Za-z][A-Za-z0-9_]*|__init__)\Z")

    def test_attributes(self):
        own = set(OWN_METHODS)
        for tree in self.trees.values():
            for node in ast.walk(tree):
                if isinstance(node, ast.FunctionDef):
                    own.add(node.name)
                elif isinstance(node, ast.Attribute) and isinstance(node.ctx, ast.Store):
                    own.add(node.attr)
        for tree in self.trees.values():
            for node in ast.walk(tree):
                if isinstance(node, ast.Attribute):
                    self.assertIn(node.attr, own)

    def test_comprehensions(self):
        for tree in self.trees.values():
            for node in ast.walk(tree):
                if isinstance(node, ast.ListComp):
                    self.assertEqual(len(node.generators), 1)
                    self.assertLessEqual(len(node.generators[0].ifs), 1)

    def test_nothing_but_whole_numbers(self):
        for tree in self.trees.values():
            for node in ast.walk(tree):
                self.assertNotIsInstance(node, (ast.Div, ast.Set, ast.SetComp, ast.DictComp, ast.GeneratorExp))
                if isinstance(node, ast.Constant):
                    self.assertNotIsInstance(node.value, (float, bytes, complex))


if __name__ == "__main__":
    unittest.main()
