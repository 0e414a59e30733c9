"""The package's files keep to the small part of Python that they are written in."""

import ast
import builtins
import re
import unittest
from pathlib import Path

PACKAGE = Path(__file__).resolve().parent.parent / "whoisthere"

STATEMENTS = (
    ast.Assign, ast.AugAssign, ast.If, ast.While, ast.For, ast.Return, ast.Break, ast.Continue, ast.Pass, ast.Raise,
    ast.Try, ast.ExceptHandler, ast.Expr, ast.FunctionDef, ast.ClassDef, ast.Module, ast.arguments, ast.arg,
)
EXPRESSIONS = (
    ast.Constant, ast.Name, ast.List, ast.Tuple, ast.Dict, ast.BinOp, ast.UnaryOp, ast.BoolOp, ast.Compare, ast.IfExp,
    ast.Call, ast.Attribute, ast.Subscript, ast.Slice, ast.ListComp, ast.comprehension, ast.keyword, ast.Lambda,
    ast.operator, ast.unaryop, ast.boolop, ast.cmpop, ast.expr_context,
)
OWN_NAMES = """len range enumerate zip min max sum abs sorted reversed int str bool list tuple dict set frozenset
    isinstance ord repr any all divmod Exception ValueError TypeError KeyError IndexError LookupError
    ZeroDivisionError ArithmeticError OverflowError RuntimeError NotImplementedError StopIteration""".split()
METHODS = """append clear copy count endswith extend find get index insert isalnum isalpha isdigit islower isspace
    isupper items join keys ljust lower lstrip partition pop remove replace reverse rfind rjust rpartition rsplit
    rstrip setdefault split splitlines startswith strip update upper values zfill bit_length""".split()
WORDS = """type typing typing_extensions enum Enum IntEnum StrEnum Flag IntFlag Generic Protocol ABC ABCMeta
    namedtuple NamedTuple TypedDict TYPE_CHECKING abstractmethod""".split()
OUT = """register mro elements open input version_info with_traceback add_note""".split()
DUNDERS = ("__init__", "__eq__", "__repr__", "__str__", "__len__")


def sources():
    return [(path, path.read_text(encoding="utf-8")) for path in sorted(PACKAGE.glob("*.py"))]


def trees():
    return [(path, ast.parse(text)) for path, text in sources()]


def names_in(tree):
    for node in ast.walk(tree):
        if isinstance(node, ast.Name):
            yield node.id
        elif isinstance(node, ast.Attribute):
            yield node.attr
        elif isinstance(node, ast.arg):
            yield node.arg
        elif isinstance(node, (ast.FunctionDef, ast.ClassDef)):
            yield node.name


def bound_in(tree):
    for node in ast.walk(tree):
        if isinstance(node, ast.Name) and isinstance(node.ctx, ast.Store):
            yield node.id
        elif isinstance(node, ast.arg):
            yield node.arg


def methods_in(tree):
    return [d.name for c in tree.body if isinstance(c, ast.ClassDef) for d in c.body if isinstance(d, ast.FunctionDef)]


class Language(unittest.TestCase):
    def test_files(self):
        found = sorted(p.name for p in PACKAGE.iterdir() if p.name != "__pycache__")
        self.assertEqual(found, ["__init__.py", "world.py"])

    def test_signs_and_sizes(self):
        for path, text in sources():
            lines = text.split("\n")
            self.assertLessEqual(len(lines), 400, path)
            self.assertRegex(text, r"\A[ -~\n]*\Z")
            self.assertLessEqual(max(len(line) for line in lines), 120, path)

    def test_functions_are_short(self):
        for path, tree in trees():
            for node in ast.walk(tree):
                if isinstance(node, ast.FunctionDef):
                    self.assertLessEqual(node.end_lineno - node.lineno + 1, 40, (path, node.name))

    def test_statements_and_expressions(self):
        for path, tree in trees():
            for node in ast.walk(tree):
                self.assertIsInstance(node, STATEMENTS + EXPRESSIONS, (path, getattr(node, "lineno", 0)))
                self.assertNotIsInstance(node, (ast.Div, ast.MatMult), path)
                self.assertFalse(getattr(node, "decorator_list", []), path)
                if isinstance(node, (ast.For, ast.While)):
                    self.assertEqual(node.orelse, [], path)
                if isinstance(node, ast.Assign):
                    self.assertEqual(len(node.targets), 1, path)
                    self.assertIsInstance(node.targets[0], (ast.Name, ast.Attribute, ast.Subscript), path)
                if isinstance(node, ast.Constant):
                    self.assertIsInstance(node.value, (int, str, bool, type(None)), path)

    def test_words(self):
        for path, text in sources():
            found = set(re.findall(r"\w+", text))
            self.assertEqual(found & set(WORDS), set(), path)
            self.assertIsNone(re.search("dataclass|overload|contextmanager", text), path)

    def test_names(self):
        for path, tree in trees():
            for name in names_in(tree):
                self.assertTrue(name in DUNDERS or not name.startswith("_"), (path, name))
                self.assertNotIn(name, OUT, path)
            for name in bound_in(tree):
                self.assertNotIn(name, dir(builtins), path)

    def test_only_these_of_pythons_own_names(self):
        for path, tree in trees():
            for node in ast.walk(tree):
                if isinstance(node, ast.Name) and node.id in dir(builtins):
                    self.assertIn(node.id, OWN_NAMES, (path, node.lineno))

    def test_methods_and_values(self):
        methods = [name for path, tree in trees() for name in methods_in(tree)]
        native = {name for kind in (str, int, list, dict, set, bytes, tuple) for name in dir(kind)} - set(DUNDERS)
        for path, tree in trees():
            for node in ast.walk(tree):
                if isinstance(node, ast.Attribute) and isinstance(node.ctx, ast.Store):
                    self.assertNotIn(node.attr, native, path)
                    self.assertNotIn(node.attr, methods, path)
                if isinstance(node, ast.Call) and isinstance(node.func, ast.Attribute):
                    self.assertIn(node.func.attr, methods + METHODS, (path, node.lineno))
        self.assertEqual(set(methods) & native, set())

    def test_each_name_once_at_the_top(self):
        for path, tree in trees():
            names = [s.targets[0].id for s in tree.body if isinstance(s, ast.Assign)]
            names += [s.name for s in tree.body if isinstance(s, (ast.FunctionDef, ast.ClassDef))]
            self.assertEqual(len(names), len(set(names)), path)
            self.assertEqual(set(names) & set(bound_in(tree)), set(
                s.targets[0].id for s in tree.body if isinstance(s, ast.Assign)), path)
