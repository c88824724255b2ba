"""The form of the package's files: what of it can be seen row by row, and the interface's arguments."""

import ast
import builtins
import inspect
import pathlib
import re
import unittest

import leadson
from leadson import answers, leadings, rings, telling

PACKAGE = pathlib.Path(leadson.__file__).parent

OWN_NAMES = set(
    "len range enumerate zip min max sum abs sorted reversed int str bool list tuple dict set frozenset isinstance"
    " ord repr any all divmod Exception ValueError TypeError KeyError IndexError LookupError ZeroDivisionError"
    " ArithmeticError OverflowError RuntimeError NotImplementedError StopIteration".split()
)
METHODS = set(
    "append clear copy count endswith extend find get index insert isalnum isalpha isdigit islower isspace isupper"
    " items join keys ljust lower lstrip partition pop remove replace reverse rfind rjust rpartition rsplit rstrip"
    " setdefault split splitlines startswith strip update upper values zfill bit_length".split()
)
PYTHONS_METHODS = set(dir(str) + dir(int) + dir(list) + dir(tuple) + dir(dict) + dir(set) + dir(bytes)) - {"__init__"}
STATEMENTS = (
    ast.FunctionDef, ast.ClassDef, ast.ImportFrom, ast.Assign, ast.AugAssign, ast.If, ast.While, ast.For, ast.Return,
    ast.Break, ast.Continue, ast.Pass, ast.Raise, ast.Try, ast.Expr,
)
NOT_USED = (
    ast.GeneratorExp, ast.SetComp, ast.DictComp, ast.NamedExpr, ast.Starred, ast.Div, ast.Set, ast.Await, ast.Yield,
)
WORDS = re.compile(
    r"\b(type|typing|typing_extensions|enum|Enum|IntEnum|StrEnum|Flag|IntFlag|Generic|Protocol|ABC|ABCMeta|namedtuple"
    r"|NamedTuple|TypedDict|TYPE_CHECKING|abstractmethod)\b|dataclass|overload|contextmanager"
)
NOT_NAMES = set(
    "attrgetter breakpoint builtins compile copyright credits delattr dir eval exec exit gc getattr globals hasattr help"
    " id importlib license locals methodcaller os quit setattr super type vars sys register mro elements open input"
    " version_info with_traceback add_note chr".split()
)
KEYWORDS = {"sorted": {"key", "reverse"}, "min": {"key", "default"}, "max": {"key", "default"}, "sum": {"start"}}


def files():
    return sorted(path for path in PACKAGE.rglob("*") if "__pycache__" not in path.parts)


def trees():
    for path in files():
        yield path.name, ast.parse(path.read_text(encoding="utf-8"))


def classes(tree):
    return [node for node in tree.body if isinstance(node, ast.ClassDef)]


def drawn(tree):
    """The names that a file draws from others, each with the file that it is drawn from."""
    rows = [node for node in tree.body if isinstance(node, ast.ImportFrom)]
    return {alias.name: row.module.split(".")[-1] + ".py" for row in rows for alias in row.names}


def bound_at_the_top(tree):
    names = [node.name for node in tree.body if isinstance(node, (ast.FunctionDef, ast.ClassDef))]
    for node in tree.body:
        if isinstance(node, ast.Assign):
            names += [target.id for target in node.targets]
    return names


class Form(unittest.TestCase):
    def test_files(self):
        for path in files():
            self.assertRegex(path.name, r"^[a-z_0-9]+\.py$")
            self.assertNotRegex(path.name, r"^(tests?|testing|test_.*|site|conftest)\.py$")
            if path.name != "__init__.py":
                self.assertFalse(hasattr(builtins, path.stem), path.name)

    def test_rows(self):
        for path in files():
            text = path.read_bytes().decode("ascii")
            rows = text.split("\n")
            self.assertLessEqual(len(rows), 400)
            self.assertRegex(text, r"\A[\n -~]*\n\Z")
            self.assertIsNone(WORDS.search(text), path.name)
            for row in rows:
                self.assertLessEqual(len(row), 120)

    def test_only_the_package_is_drawn_from(self):
        for name, tree in trees():
            for node in ast.walk(tree):
                self.assertNotIsInstance(node, ast.Import)
                if isinstance(node, ast.ImportFrom):
                    self.assertIn(node, tree.body)
                    self.assertEqual(node.level, 0)
                    self.assertTrue(node.module.startswith("leadson."), name)
                    self.assertNotIn("*", [drawn.name for drawn in node.names])

    def test_top_of_a_module(self):
        for name, tree in trees():
            self.assertIsNotNone(ast.get_docstring(tree), name)
            for node in tree.body[1:]:
                self.assertIsInstance(node, (ast.ImportFrom, ast.FunctionDef, ast.ClassDef, ast.Assign))

    def test_statements(self):
        for name, tree in trees():
            for node in ast.walk(tree):
                if isinstance(node, ast.stmt):
                    self.assertIsInstance(node, STATEMENTS, name)
                self.assertNotIsInstance(node, NOT_USED, name)
                if isinstance(node, ast.Expr) and node is not tree.body[0]:
                    self.assertIsInstance(node.value, ast.Call, name)
                if isinstance(node, (ast.For, ast.While)):
                    self.assertEqual(node.orelse, [])
                if isinstance(node, ast.Constant):
                    self.assertIn(node.value.__class__, (int, str, bool, None.__class__))

    def test_functions(self):
        for name, tree in trees():
            for node in ast.walk(tree):
                if isinstance(node, ast.FunctionDef):
                    self.assertLessEqual(node.end_lineno - node.lineno + 1, 40, node.name)
                    self.assertEqual(node.decorator_list, [])
                    handed = node.args
                    self.assertEqual((handed.vararg, handed.kwarg, handed.kwonlyargs), (None, None, []))

    def test_names(self):
        for name, tree in trees():
            for node in ast.walk(tree):
                if isinstance(node, ast.Name):
                    self.assertRegex(node.id, r"^[A-Za-z][A-Za-z0-9_]*$")
                    if isinstance(node.ctx, ast.Store):
                        self.assertFalse(hasattr(builtins, node.id), node.id)
                    elif hasattr(builtins, node.id):
                        self.assertIn(node.id, OWN_NAMES, name)
                    self.assertNotIn(node.id, NOT_NAMES)
                if isinstance(node, ast.arg):
                    self.assertFalse(hasattr(builtins, node.arg), node.arg)
                if isinstance(node, ast.Attribute):
                    self.assertTrue(node.attr in METHODS or node.attr not in PYTHONS_METHODS, (name, node.attr))

    def test_each_name_once(self):
        for name, tree in trees():
            top = bound_at_the_top(tree) + list(drawn(tree))
            self.assertEqual(len(set(top)), len(top), name)
            taken = [node.name for node in classes(tree)] + list(drawn(tree))
            for node in ast.walk(tree):
                if isinstance(node, ast.arg):
                    self.assertNotIn(node.arg, taken, name)
                if isinstance(node, ast.Name) and isinstance(node.ctx, ast.Store):
                    self.assertNotIn(node.id, taken, name)
                if isinstance(node, ast.alias):
                    self.assertIsNone(node.asname, name)

    def test_each_name_is_drawn_from_the_file_that_defines_it(self):
        tops = {name: bound_at_the_top(tree) for name, tree in trees()}
        for name, tree in trees():
            for word, source in drawn(tree).items():
                self.assertIn(word, tops[source], (name, source))

    def test_no_two_files_draw_from_one_another(self):
        sources = {name: set(drawn(tree).values()) for name, tree in trees()}
        while sources:
            free = [name for name in sources if not sources[name] & set(sources)]
            self.assertNotEqual(free, [], sources)
            for name in free:
                del sources[name]

    def test_classes(self):
        methods, values = set(), set()
        for name, tree in trees():
            for node in classes(tree):
                self.assertLessEqual(len(node.bases), 1)
                self.assertEqual((node.keywords, node.decorator_list), ([], []))
                for within in node.body:
                    self.assertIsInstance(within, (ast.FunctionDef, ast.Pass))
                own = [within.name for within in node.body if isinstance(within, ast.FunctionDef)]
                self.assertEqual(len(set(own)), len(own))
                methods |= set(own)
            for node in ast.walk(tree):
                if isinstance(node, ast.Attribute) and isinstance(node.ctx, ast.Store):
                    self.assertEqual(node.value.id, "self")
                    values.add(node.attr)
        self.assertEqual(methods & values, set())

    def test_assignments_and_comparisons(self):
        for name, tree in trees():
            for node in ast.walk(tree):
                if isinstance(node, ast.Assign):
                    self.assertEqual(len(node.targets), 1)
                    self.assertNotIsInstance(node.targets[0], (ast.Tuple, ast.List))
                if isinstance(node, ast.Compare):
                    for sign, value in zip(node.ops, node.comparators):
                        if isinstance(sign, (ast.Is, ast.IsNot)):
                            self.assertIn(getattr(value, "value", ""), (None, True, False))

    def test_sets_are_counted_sorted_or_asked_with_in_alone(self):
        for name, tree in trees():
            fit = set()
            for node in ast.walk(tree):
                if isinstance(node, ast.Call) and getattr(node.func, "id", "") in ("len", "sorted"):
                    fit |= set(node.args)
                if isinstance(node, ast.Compare) and isinstance(node.ops[0], (ast.In, ast.NotIn)):
                    fit |= set(node.comparators)
                if isinstance(node, ast.Call) and getattr(node.func, "id", "") in ("set", "frozenset"):
                    self.assertIn(node, fit, name)

    def test_calls(self):
        for name, tree in trees():
            for node in ast.walk(tree):
                if isinstance(node, ast.Call):
                    called = getattr(node.func, "id", "")
                    self.assertLessEqual({word.arg for word in node.keywords}, KEYWORDS.get(called, set()), name)


class Interface(unittest.TestCase):
    def takes(self, asked, arguments):
        handed = inspect.signature(asked).parameters
        self.assertEqual(list(handed), arguments)
        for one in handed.values():
            self.assertEqual((one.kind, one.default), (one.POSITIONAL_OR_KEYWORD, one.empty))

    def test_functions(self):
        told = {
            leadings.times: ["leading", "steps"],
            leadings.after: ["leading", "place", "steps"],
            leadings.comers: ["leading", "place", "steps"],
            leadings.behind: ["one", "other"],
            leadings.undone: ["leading"],
            rings.rings: ["leading"],
            rings.waits: ["leading"],
            rings.settled: ["leading"],
            telling.reached: ["leading", "one", "other"],
            telling.comes: ["leading", "one", "other"],
            telling.root: ["leading"],
        }
        for asked, arguments in told.items():
            self.takes(asked, arguments)

    def test_answers(self):
        told = {
            answers.Steps: ["many"],
            answers.Shut: ["places"],
            answers.Met: ["mine", "theirs"],
            answers.Apart: ["places"],
            answers.Root: ["leading"],
            answers.Odd: ["length", "rings"],
        }
        for kind, fields in told.items():
            self.takes(kind, fields)
            of_one = kind in (answers.Root, answers.Odd)
            self.takes(kind.shows, ["self", "leading"] if of_one else ["self", "leading", "one", "other"])
