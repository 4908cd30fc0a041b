"""The package keeps to the part of Python that LANGUAGE.md tells, as far as a walk through its files can see."""

import ast
import contextlib
import io
import os
import re
import unittest

import barframe
from barframe import frames

FOLDER = os.path.dirname(barframe.__file__)

NODES = """
Module Expr Assign AugAssign If While For Return Break Continue Pass Raise Try ExceptHandler FunctionDef ClassDef
Lambda arguments arg keyword Constant Name Attribute Subscript Slice List Tuple Dict Set ListComp comprehension
BinOp UnaryOp BoolOp Compare IfExp Call JoinedStr FormattedValue Import ImportFrom alias Load Store
Add Sub Mult FloorDiv Mod Pow BitAnd BitOr BitXor LShift RShift Invert Not UAdd USub And Or
Eq NotEq Lt LtE Gt GtE In NotIn Is IsNot
""".split()

BUILT_IN = """
len range enumerate zip min max sum abs sorted reversed int str bool list tuple dict set frozenset isinstance ord repr
any all divmod Exception ValueError TypeError KeyError IndexError LookupError ZeroDivisionError ArithmeticError
OverflowError RuntimeError NotImplementedError AttributeError StopIteration True False None
""".split()

METHODS = """
append clear copy count endswith extend find get index insert isalnum isalpha isdigit islower isspace isupper items
join keys ljust lower lstrip partition pop remove replace reverse rfind rjust rpartition rsplit rstrip setdefault split
splitlines startswith strip update upper values zfill bit_length
""".split()

WORDS = """
type typing typing_extensions enum Enum IntEnum StrEnum Flag IntFlag Generic Protocol ABC ABCMeta namedtuple NamedTuple
TypedDict TYPE_CHECKING abstractmethod
""".split()


def package_files():
    for name in sorted(os.listdir(FOLDER)):
        if name != "__pycache__":
            with open(os.path.join(FOLDER, name), encoding="utf-8", newline="") as file:
                yield name, file.read()


def trees():
    for name, text in package_files():
        yield name, ast.parse(text)


def bound_names(tree):
    names = set()
    for node in ast.walk(tree):
        if isinstance(node, (ast.FunctionDef, ast.ClassDef)):
            names.add(node.name)
        elif isinstance(node, ast.arg):
            names.add(node.arg)
        elif isinstance(node, (ast.Name, ast.Attribute)) and isinstance(node.ctx, ast.Store):
            names.add(node.id if isinstance(node, ast.Name) else node.attr)
        elif isinstance(node, ast.alias):
            names.add(node.asname or node.name)
    return names


class Language(unittest.TestCase):
    def test_files(self):
        for name, text in package_files():
            self.assertRegex(name, r"^[a-z0-9_]+\.py$")
            self.assertRegex(text, r"^[ -~\n]*\Z")
            lines = text.split("\n")
            self.assertLessEqual(len(lines), 401)
            self.assertLessEqual(max(len(line) for line in lines), 120)

    def test_words(self):
        for name, text in package_files():
            self.assertEqual([word for word in re.findall(r"\w+", text) if word in WORDS], [], name)
            self.assertNotRegex(text, "dataclass|overload|contextmanager")

    def test_forms(self):
        for name, tree in trees():
            for node in ast.walk(tree):
                self.assertIn(node.__class__.__name__, NODES, (name, getattr(node, "lineno", 0)))
                if isinstance(node, ast.FunctionDef):
                    self.assertLessEqual(node.end_lineno - node.lineno + 1, 40, node.name)
                    self.assertEqual(node.decorator_list, [], node.name)
                if isinstance(node, ast.Assign):
                    self.assertEqual(len(node.targets), 1, (name, node.lineno))
                if isinstance(node, (ast.For, ast.While)):
                    self.assertEqual(node.orelse, [], (name, node.lineno))
                if isinstance(node, ast.Constant):
                    kind = node.value.__class__.__name__
                    self.assertIn(kind, ("int", "str", "bool", "NoneType"), (name, node.lineno))

    def test_names(self):
        for name, tree in trees():
            known = bound_names(tree)
            self.assertEqual(sorted(known & set(BUILT_IN + METHODS)), [], name)
            for word in known - {"__init__"}:
                self.assertRegex(word, r"^[A-Za-z]\w*$", name)
            for node in ast.walk(tree):
                if isinstance(node, ast.Name):
                    self.assertIn(node.id, known | set(BUILT_IN), (name, node.lineno))
                if isinstance(node, ast.Attribute):
                    self.assertIn(node.attr, known | set(METHODS), (name, node.lineno))


class Silence(unittest.TestCase):
    def test_nothing_is_imported(self):
        for name, tree in trees():
            for node in ast.walk(tree):
                self.assertNotIsInstance(node, (ast.Import, ast.ImportFrom), name)

    def test_nothing_is_printed(self):
        out = io.StringIO()
        with contextlib.redirect_stdout(out), contextlib.redirect_stderr(out):
            frames.ri_kept(3, [0, 1])
            frames.ri_kept(0, [])
            frames.ri_parts(3, 5, [0, 1])
            frames.ri_parts(3, 0, [0, 1])
            frames.ri_holds(4, 1, 3, [0, 1, 1, 2, 2, 3, 3, 0, 0, 2])
            frames.ri_holds(4, 1, 3, [])
            frames.ri_holds(4, 1, 1, [])
            frames.ri_spare(3, [0, 1])
            frames.ri_spare(0, [])
            frames.ri_steps(3, 1, [0, 1, 1, 2, 2, 0])
            frames.ri_steps(3, 0, [0, 1, 1, 2, 2, 0])
            frames.ri_steps(3, 1, [])
            frames.ri_steps(0, 1, [])
            frames.ri_rank(3, [0, 1, 1, 2, 2, 0], [0, 0, 1, 0, 0, 1])
            frames.ri_rank(13, [], [0] * 26)
            frames.ri_rank(0, [], [])
            frames.ri_moves(3, 0, 2, [0, 1, 1, 2], [0, 0, 1, 0, 0, 1])
            frames.ri_moves(3, 0, 2, [0, 1, 1, 2], [0, 0, 1, 0, 2, 0])
            frames.ri_moves(13, 0, 1, [], [0] * 26)
            frames.ri_moves(3, 1, 1, [], [0] * 6)
        self.assertEqual(out.getvalue(), "")


if __name__ == "__main__":
    unittest.main()
