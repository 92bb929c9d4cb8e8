"""The package keeps to the small part of Python that the project is written in."""

import ast
import builtins
import pathlib
import re
import unittest

PACKAGE = pathlib.Path(__file__).resolve().parent.parent / "doughhours"
FILES = sorted(PACKAGE.glob("*.py"))

NODES = set("""
    Module FunctionDef ClassDef Lambda arguments arg keyword ImportFrom alias
    Assign AugAssign If While For Return Break Continue Pass Raise Try ExceptHandler Expr
    BoolOp BinOp UnaryOp Compare IfExp Call Attribute Subscript Slice Name Constant List Tuple Dict Set
    ListComp comprehension JoinedStr FormattedValue Load Store And Or Not UAdd USub Invert
    Add Sub Mult FloorDiv Mod Pow BitAnd BitOr BitXor LShift RShift
    Eq NotEq Lt LtE Gt GtE Is IsNot In NotIn
""".split())
OWN_NAMES = set("""
    len range enumerate zip min max sum abs sorted reversed int str bool list tuple dict set frozenset isinstance
    ord repr any all divmod Exception ValueError TypeError KeyError IndexError LookupError ZeroDivisionError
    ArithmeticError OverflowError RuntimeError NotImplementedError AttributeError StopIteration
""".split())
WORDS = re.compile(
    r"\b(type|typing|typing_extensions|enum|Enum|IntEnum|StrEnum|Flag|IntFlag|Generic|Protocol|ABC|ABCMeta|"
    r"namedtuple|NamedTuple|TypedDict|TYPE_CHECKING|abstractmethod)\b|dataclass|overload|contextmanager"
)
METHODS = set("""
    append clear copy count endswith extend find get index insert isalnum isalpha isdigit islower isspace isupper items
    join keys ljust lower lstrip partition pop remove replace reverse rfind rjust rpartition rsplit rstrip setdefault
    split splitlines startswith strip update upper values zfill bit_length
""".split())


def bound_names(tree):
    for node in ast.walk(tree):
        if isinstance(node, ast.arg):
            yield node.arg
        elif isinstance(node, ast.Name) and isinstance(node.ctx, ast.Store):
            yield node.id
        elif isinstance(node, (ast.FunctionDef, ast.ClassDef)):
            yield node.name


def local_names(tree):
    for node in ast.walk(tree):
        if isinstance(node, ast.FunctionDef):
            yield from (name for name in bound_names(node) if name != node.name)


def top_names(tree):
    for node in tree.body:
        if isinstance(node, (ast.FunctionDef, ast.ClassDef)):
            yield node.name
        elif isinstance(node, ast.Assign):
            yield node.targets[0].id


def drawn(tree):
    """Each name that a file draws from another one, with that file."""
    return {alias.name: node.module for node in tree.body if isinstance(node, ast.ImportFrom) for alias in node.names}


def own_methods(trees):
    kinds = [node for tree in trees for node in tree.body if isinstance(node, ast.ClassDef)]
    return {node.name for kind in kinds for node in kind.body if isinstance(node, ast.FunctionDef)}


def kept_values(trees):
    nodes = [node for tree in trees for node in ast.walk(tree) if isinstance(node, ast.Attribute)]
    return {node.attr for node in nodes if isinstance(node.ctx, ast.Store)}


def called_methods(trees):
    nodes = [node for tree in trees for node in ast.walk(tree) if isinstance(node, ast.Call)]
    return {node.func.attr for node in nodes if isinstance(node.func, ast.Attribute)}


def is_docstring(node, tree):
    return bool(tree.body) and node is tree.body[0] and isinstance(node.value, ast.Constant)


def each_file():
    for file in FILES:
        text = file.read_text(encoding="utf-8")
        yield file.name, text, ast.parse(text)


class TestLanguage(unittest.TestCase):
    def test_files(self):
        names = [entry.name for entry in PACKAGE.iterdir() if entry.name != "__pycache__"]
        self.assertEqual(sorted(names), [file.name for file in FILES])
        self.assertIn("__init__.py", names)
        for name in names:
            self.assertRegex(name, r"\A[a-z_0-9]+\.py\Z")

    def test_signs_words_and_sizes(self):
        for file, text, tree in each_file():
            with self.subTest(file=file):
                self.assertRegex(text, r"\A[ -~\n]*\Z")
                self.assertIsNone(WORDS.search(text))
                rows = text.split("\n")
                self.assertLessEqual(len(rows), 400)
                self.assertLessEqual(max(len(row) for row in rows), 120)
                for node in ast.walk(tree):
                    if isinstance(node, ast.FunctionDef):
                        self.assertLessEqual(node.end_lineno - node.lineno + 1, 40, node.name)

    def test_nodes(self):
        for file, text, tree in each_file():
            with self.subTest(file=file):
                for node in ast.walk(tree):
                    where = (type(node).__name__, getattr(node, "lineno", 0))
                    self.assertIn(where[0], NODES, where)
                    if isinstance(node, ast.Expr):
                        self.assertTrue(isinstance(node.value, ast.Call) or is_docstring(node, tree), where)
                    elif isinstance(node, ast.Constant):
                        self.assertNotIsInstance(node.value, (float, bytes, complex), where)
                    elif isinstance(node, ast.Assign):
                        self.assertEqual(len(node.targets), 1, where)
                    elif isinstance(node, (ast.For, ast.While)):
                        self.assertEqual(node.orelse, [], where)
                    elif isinstance(node, (ast.FunctionDef, ast.ClassDef)):
                        self.assertEqual(node.decorator_list, [], where)

    def test_imports_are_the_packages_own(self):
        for file, text, tree in each_file():
            with self.subTest(file=file):
                for node in ast.walk(tree):
                    if isinstance(node, ast.ImportFrom):
                        self.assertIn(node, tree.body)
                        self.assertEqual(node.level, 0)
                        self.assertTrue(node.module.startswith("doughhours."), node.module)

    def test_names(self):
        for file, text, tree in each_file():
            with self.subTest(file=file):
                for name in bound_names(tree):
                    if name != "__init__":
                        self.assertRegex(name, r"\A[A-Za-z][A-Za-z0-9_]*\Z")
                        self.assertFalse(hasattr(builtins, name), name)
                for node in ast.walk(tree):
                    if isinstance(node, ast.Name) and hasattr(builtins, node.id):
                        self.assertIn(node.id, OWN_NAMES)

    def test_methods_and_values(self):
        trees = [tree for file, text, tree in each_file()]
        methods, values, called = own_methods(trees), kept_values(trees), called_methods(trees)
        self.assertEqual(methods & values, set())
        self.assertEqual(called - methods - METHODS, set())

    def test_nothing_is_called_like_a_class_or_an_import(self):
        for file, text, tree in each_file():
            with self.subTest(file=file):
                taken = {node.name for node in tree.body if isinstance(node, ast.ClassDef)} | set(drawn(tree))
                self.assertEqual(taken & set(local_names(tree)), set())

    def test_a_name_is_drawn_from_the_file_that_defines_it(self):
        trees = {f"doughhours.{file[:-3]}": tree for file, text, tree in each_file()}
        for file, tree in trees.items():
            for name, source in drawn(tree).items():
                with self.subTest(file=file, name=name):
                    self.assertIn(name, top_names(trees[source]))

    def test_no_two_files_draw_from_one_another(self):
        draws = {f"doughhours.{file[:-3]}": set(drawn(tree).values()) for file, text, tree in each_file()}
        while draws:
            free = [file for file, sources in draws.items() if not sources & set(draws)]
            self.assertTrue(free, draws)
            for file in free:
                del draws[file]


if __name__ == "__main__":
    unittest.main()
