"""The form of the package's files: what of it can be seen row by row, and the interface's arguments."""

import ast
import builtins
import inspect
import pathlib
import re
import unittest

import leadson
from leadson import leadings

PACKAGE = pathlib.Path(leadson.__file__).parent

OWN_NAMES = set(
    "len range enumerate zip min max sum abs sorted reversed int str bool list tuple dict set frozenset isinstance"
    " ord repr any all divmod Exception ValueError TypeError KeyError IndexError LookupError ZeroDivisionError"
    " ArithmeticError OverflowError RuntimeError NotImplementedError StopIteration".split()
)
METHODS = set(
    "append clear copy count endswith extend find get index insert isalnum isalpha isdigit islower isspace isupper"
    " items join keys ljust lower lstrip partition pop remove replace reverse rfind rjust rpartition rsplit rstrip"
    " setdefault split splitlines startswith strip update upper values zfill bit_length".split()
)
PYTHONS_METHODS = set(dir(str) + dir(int) + dir(list) + dir(tuple) + dir(dict) + dir(set) + dir(bytes)) - {"__init__"}
STATEMENTS = (
    ast.FunctionDef, ast.ClassDef, ast.ImportFrom, ast.Assign, ast.AugAssign, ast.If, ast.While, ast.For, ast.Return,
    ast.Break, ast.Continue, ast.Pass, ast.Raise, ast.Try, ast.Expr,
)
NOT_USED = (
    ast.GeneratorExp, ast.SetComp, ast.DictComp, ast.NamedExpr, ast.Starred, ast.Div, ast.Set, ast.Await, ast.Yield,
)
WORDS = re.compile(
    r"\b(type|typing|typing_extensions|enum|Enum|IntEnum|StrEnum|Flag|IntFlag|Generic|Protocol|ABC|ABCMeta|namedtuple"
    r"|NamedTuple|TypedDict|TYPE_CHECKING|abstractmethod)\b|dataclass|overload|contextmanager"
)


def files():
    return sorted(path for path in PACKAGE.rglob("*") if "__pycache__" not in path.parts)


def trees():
    for path in files():
        yield path.name, ast.parse(path.read_text(encoding="utf-8"))


class Form(unittest.TestCase):
    def test_files(self):
        for path in files():
            self.assertRegex(path.name, r"^[a-z_0-9]+\.py$")
            self.assertNotRegex(path.name, r"^(tests?|testing|test_.*|site|conftest)\.py$")
            if path.name != "__init__.py":
                self.assertFalse(hasattr(builtins, path.stem), path.name)

    def test_rows(self):
        for path in files():
            text = path.read_bytes().decode("ascii")
            rows = text.split("\n")
            self.assertLessEqual(len(rows), 400)
            self.assertRegex(text, r"\A[\n -~]*\n\Z")
            self.assertIsNone(WORDS.search(text), path.name)
            for row in rows:
                self.assertLessEqual(len(row), 120)

    def test_only_the_package_is_drawn_from(self):
        for name, tree in trees():
            for node in ast.walk(tree):
                self.assertNotIsInstance(node, ast.Import)
                if isinstance(node, ast.ImportFrom):
                    self.assertIn(node, tree.body)
                    self.assertEqual(node.level, 0)
                    self.assertTrue(node.module.startswith("leadson."), name)
                    self.assertNotIn("*", [drawn.name for drawn in node.names])

    def test_top_of_a_module(self):
        for name, tree in trees():
            self.assertIsNotNone(ast.get_docstring(tree), name)
            for node in tree.body[1:]:
                self.assertIsInstance(node, (ast.ImportFrom, ast.FunctionDef, ast.ClassDef, ast.Assign))

    def test_statements(self):
        for name, tree in trees():
            for node in ast.walk(tree):
                if isinstance(node, ast.stmt):
                    self.assertIsInstance(node, STATEMENTS, name)
                self.assertNotIsInstance(node, NOT_USED, name)
                if isinstance(node, ast.Expr) and node is not tree.body[0]:
                    self.assertIsInstance(node.value, ast.Call, name)
                if isinstance(node, (ast.For, ast.While)):
                    self.assertEqual(node.orelse, [])
                if isinstance(node, ast.Constant):
                    self.assertIn(node.value.__class__, (int, str, bool, None.__class__))

    def test_functions(self):
        for name, tree in trees():
            for node in ast.walk(tree):
                if isinstance(node, ast.FunctionDef):
                    self.assertLessEqual(node.end_lineno - node.lineno + 1, 40, node.name)
                    self.assertEqual(node.decorator_list, [])
                    handed = node.args
                    self.assertEqual((handed.vararg, handed.kwarg, handed.kwonlyargs), (None, None, []))

    def test_names(self):
        for name, tree in trees():
            for node in ast.walk(tree):
                if isinstance(node, ast.Name):
                    self.assertRegex(node.id, r"^[A-Za-z][A-Za-z0-9_]*$")
                    if isinstance(node.ctx, ast.Store):
                        self.assertFalse(hasattr(builtins, node.id), node.id)
                    elif hasattr(builtins, node.id):
                        self.assertIn(node.id, OWN_NAMES, name)
                if isinstance(node, ast.arg):
                    self.assertFalse(hasattr(builtins, node.arg), node.arg)
                if isinstance(node, ast.Attribute):
                    self.assertTrue(node.attr in METHODS or node.attr not in PYTHONS_METHODS, (name, node.attr))


class Interface(unittest.TestCase):
    def test_arguments(self):
        told = {
            "times": ["leading", "steps"],
            "after": ["leading", "place", "steps"],
            "comers": ["leading", "place", "steps"],
            "behind": ["one", "other"],
            "undone": ["leading"],
        }
        for name, arguments in told.items():
            asked = inspect.signature(getattr(leadings, name))
            self.assertEqual(list(asked.parameters), arguments)
            for handed in asked.parameters.values():
                self.assertEqual((handed.kind, handed.default), (handed.POSITIONAL_OR_KEYWORD, handed.empty))
