"""The package keeps to the small part of Python that the project is written in."""

import ast
import builtins
import pathlib
import re
import unittest

PACKAGE = pathlib.Path(__file__).resolve().parent.parent / "doughhours"
FILES = sorted(PACKAGE.glob("*.py"))

NODES = set("""
    Module FunctionDef ClassDef Lambda arguments arg keyword ImportFrom alias
    Assign AugAssign If While For Return Break Continue Pass Raise Try ExceptHandler Expr
    BoolOp BinOp UnaryOp Compare IfExp Call Attribute Subscript Slice Name Constant List Tuple Dict Set
    ListComp comprehension JoinedStr FormattedValue Load Store And Or Not UAdd USub Invert
    Add Sub Mult FloorDiv Mod Pow BitAnd BitOr BitXor LShift RShift
    Eq NotEq Lt LtE Gt GtE Is IsNot In NotIn
""".split())
OWN_NAMES = set("""
    len range enumerate zip min max sum abs sorted reversed int str bool list tuple dict set frozenset isinstance
    ord repr any all divmod Exception ValueError TypeError KeyError IndexError LookupError ZeroDivisionError
    ArithmeticError OverflowError RuntimeError NotImplementedError AttributeError StopIteration
""".split())
WORDS = re.compile(
    r"\b(type|typing|typing_extensions|enum|Enum|IntEnum|StrEnum|Flag|IntFlag|Generic|Protocol|ABC|ABCMeta|"
    r"namedtuple|NamedTuple|TypedDict|TYPE_CHECKING|abstractmethod)\b|dataclass|overload|contextmanager"
)
NOT_USED = "isnumeric isdecimal isidentifier sort popitem format format_map encode casefold swapcase".split()


def bound_names(tree):
    for node in ast.walk(tree):
        if isinstance(node, ast.arg):
            yield node.arg
        elif isinstance(node, ast.Name) and isinstance(node.ctx, ast.Store):
            yield node.id
        elif isinstance(node, (ast.FunctionDef, ast.ClassDef)):
            yield node.name


def is_docstring(node, tree):
    return bool(tree.body) and node is tree.body[0] and isinstance(node.value, ast.Constant)


def each_file():
    for file in FILES:
        text = file.read_text(encoding="utf-8")
        yield file.name, text, ast.parse(text)


class TestLanguage(unittest.TestCase):
    def test_files(self):
        names = [entry.name for entry in PACKAGE.iterdir() if entry.name != "__pycache__"]
        self.assertEqual(sorted(names), [file.name for file in FILES])
        self.assertIn("__init__.py", names)
        for name in names:
            self.assertRegex(name, r"\A[a-z_0-9]+\.py\Z")

    def test_signs_words_and_sizes(self):
        for file, text, tree in each_file():
            with self.subTest(file=file):
                self.assertRegex(text, r"\A[ -~\n]*\Z")
                self.assertIsNone(WORDS.search(text))
                rows = text.split("\n")
                self.assertLessEqual(len(rows), 400)
                self.assertLessEqual(max(len(row) for row in rows), 120)
                for node in ast.walk(tree):
                    if isinstance(node, ast.FunctionDef):
                        self.assertLessEqual(node.end_lineno - node.lineno + 1, 40, node.name)

    def test_nodes(self):
        for file, text, tree in each_file():
            with self.subTest(file=file):
                for node in ast.walk(tree):
                    where = (type(node).__name__, getattr(node, "lineno", 0))
                    self.assertIn(where[0], NODES, where)
                    if isinstance(node, ast.Expr):
                        self.assertTrue(isinstance(node.value, ast.Call) or is_docstring(node, tree), where)
                    elif isinstance(node, ast.Constant):
                        self.assertNotIsInstance(node.value, (float, bytes, complex), where)
                    elif isinstance(node, ast.Assign):
                        self.assertEqual(len(node.targets), 1, where)
                    elif isinstance(node, (ast.For, ast.While)):
                        self.assertEqual(node.orelse, [], where)
                    elif isinstance(node, (ast.FunctionDef, ast.ClassDef)):
                        self.assertEqual(node.decorator_list, [], where)

    def test_imports_are_the_packages_own(self):
        for file, text, tree in each_file():
            with self.subTest(file=file):
                for node in ast.walk(tree):
                    if isinstance(node, ast.ImportFrom):
                        self.assertIn(node, tree.body)
                        self.assertEqual(node.level, 0)
                        self.assertTrue(node.module.startswith("doughhours."), node.module)

    def test_names(self):
        for file, text, tree in each_file():
            with self.subTest(file=file):
                for name in bound_names(tree):
                    if name != "__init__":
                        self.assertRegex(name, r"\A[A-Za-z][A-Za-z0-9_]*\Z")
                        self.assertFalse(hasattr(builtins, name), name)
                for node in ast.walk(tree):
                    if isinstance(node, ast.Name) and hasattr(builtins, node.id):
                        self.assertIn(node.id, OWN_NAMES)
                    elif isinstance(node, ast.Attribute):
                        self.assertNotIn(node.attr, NOT_USED)


if __name__ == "__main__":
    unittest.main()
