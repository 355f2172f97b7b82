"""The package keeps to the part of Python that it is written in, as far as a look at its files can tell."""

import ast
import builtins
import pathlib
import re
import unittest

import rowshares

FOLDER = pathlib.Path(rowshares.__file__).parent
FILES = sorted(FOLDER.glob("*.py"))
OWN_NAMES = set("""len range enumerate zip min max sum abs sorted reversed int str bool list tuple dict set frozenset
    isinstance ord repr any all divmod Exception ValueError TypeError KeyError IndexError LookupError ZeroDivisionError
    ArithmeticError OverflowError RuntimeError NotImplementedError StopIteration""".split())
METHODS = set("""append clear copy count endswith extend find get index insert isalnum isalpha isdigit islower isspace
    isupper items join keys ljust lower lstrip partition pop remove replace reverse rfind rjust rpartition rsplit rstrip
    setdefault split splitlines startswith strip update upper values zfill bit_length""".split())
NODES = set("""Module Expr Constant ImportFrom alias Assign Name Store Load FunctionDef arguments arg ClassDef Attribute
    If While For Return Break Continue Pass Raise Try ExceptHandler AugAssign Lambda JoinedStr FormattedValue
    Call keyword Subscript Slice List Tuple Dict ListComp comprehension
    BinOp UnaryOp BoolOp Compare IfExp Add Sub Mult FloorDiv Mod Pow LShift RShift BitAnd BitOr BitXor Invert USub
    And Or Not Eq NotEq Lt LtE Gt GtE In NotIn Is IsNot""".split())
KEYWORDS = {"sorted": ("key", "reverse"), "min": ("key", "default"), "max": ("key", "default"), "sum": ("start",),
            "enumerate": ("start",), "zip": ("strict",)}
WORDS_NOT_USED = re.compile(
    r"\b(type|typing|typing_extensions|enum|Enum|IntEnum|StrEnum|Flag|IntFlag|Generic|Protocol|ABC|ABCMeta|namedtuple"
    r"|NamedTuple|TypedDict|TYPE_CHECKING|abstractmethod)\b|dataclass|overload|contextmanager")


def walk_files():
    for path in FILES:
        text = path.read_text(encoding="utf-8")
        yield path.name, text, ast.parse(text)


def bound_names(tree):
    """What a file binds anywhere: defs, classes, imports, parameters, locals."""
    for node in ast.walk(tree):
        if isinstance(node, (ast.FunctionDef, ast.ClassDef, ast.alias)):
            yield node.name
        elif isinstance(node, ast.arg):
            yield node.arg
        elif isinstance(node, ast.Name) and isinstance(node.ctx, ast.Store):
            yield node.id


def names_at_the_top(tree):
    for node in tree.body:
        if isinstance(node, ast.ImportFrom):
            yield from (alias.asname or alias.name for alias in node.names)
        elif isinstance(node, ast.Assign):
            yield node.targets[0].id
        elif isinstance(node, (ast.FunctionDef, ast.ClassDef)):
            yield node.name


class Language(unittest.TestCase):
    def test_files(self):
        names = [path.name for path in FOLDER.iterdir() if path.name != "__pycache__"]
        self.assertEqual(sorted(names), [path.name for path in FILES])
        self.assertIn("__init__.py", names)
        for name in names:
            self.assertRegex(name, r"^(__init__|[a-z][a-z0-9_]*)\.py$")

    def test_signs_lines_and_words(self):
        for name, text, tree in walk_files():
            self.assertRegex(text, r"\A[ -~\n]*\Z", name)
            self.assertLessEqual(text.count("\n"), 400, name)
            self.assertLessEqual(max(map(len, text.split("\n"))), 120, name)
            self.assertIsNone(WORDS_NOT_USED.search(text), name)

    def test_forms(self):
        for name, text, tree in walk_files():
            for node in ast.walk(tree):
                self.assertIn(type(node).__name__, NODES, (name, getattr(node, "lineno", 0)))
                if isinstance(node, ast.FunctionDef):
                    self.assertLessEqual(node.end_lineno - node.lineno + 1, 40, (name, node.name))
                    self.assertFalse(node.decorator_list or node.args.vararg or node.args.kwarg or node.args.kwonlyargs)
                if isinstance(node, (ast.While, ast.For)):
                    self.assertEqual(node.orelse, [], name)
                if isinstance(node, ast.Assign):
                    self.assertEqual(len(node.targets), 1, name)
                if isinstance(node, ast.Constant):
                    self.assertIn(type(node.value), (int, str, bool, type(None)), name)

    def test_top_of_a_module(self):
        for name, text, tree in walk_files():
            for node in tree.body:
                if isinstance(node, ast.Expr):
                    self.assertTrue(node is tree.body[0] and isinstance(node.value, ast.Constant), (name, node.lineno))
                else:
                    self.assertIsInstance(node, (ast.ImportFrom, ast.FunctionDef, ast.ClassDef, ast.Assign), name)
                if isinstance(node, ast.Assign):
                    parts = (ast.Constant, ast.Name, ast.Load, ast.List, ast.Tuple, ast.Dict, ast.UnaryOp, ast.USub)
                    for part in ast.walk(node.value):
                        self.assertIsInstance(part, parts, (name, node.lineno))
            bound = list(names_at_the_top(tree))
            self.assertEqual(sorted(bound), sorted(set(bound)), name)

    def test_no_local_like_a_class_or_an_import(self):
        for name, text, tree in walk_files():
            taken = {alias.asname or alias.name for node in ast.walk(tree) if isinstance(node, ast.ImportFrom)
                     for alias in node.names}
            taken |= {node.name for node in ast.walk(tree) if isinstance(node, ast.ClassDef)}
            for node in ast.walk(tree):
                if isinstance(node, ast.arg):
                    self.assertNotIn(node.arg, taken, (name, node.lineno))
                if isinstance(node, ast.Name) and isinstance(node.ctx, ast.Store):
                    self.assertNotIn(node.id, taken, (name, node.lineno))

    def test_no_annotation_and_no_strange_keyword(self):
        for name, text, tree in walk_files():
            for node in ast.walk(tree):
                if isinstance(node, ast.FunctionDef):
                    self.assertIsNone(node.returns, (name, node.name))
                if isinstance(node, ast.arg):
                    self.assertIsNone(node.annotation, (name, node.arg))
                if isinstance(node, ast.Call) and node.keywords:
                    self.assertIn(node.func.id, KEYWORDS, (name, node.lineno))
                    for keyword in node.keywords:
                        self.assertIn(keyword.arg, KEYWORDS[node.func.id], (name, node.lineno))
                if isinstance(node, ast.Compare) and isinstance(node.ops[0], (ast.Is, ast.IsNot)):
                    self.assertIsInstance(node.comparators[0], ast.Constant, (name, node.lineno))

    def test_imports(self):
        for name, text, tree in walk_files():
            for node in ast.walk(tree):
                if isinstance(node, ast.ImportFrom):
                    self.assertEqual(node.level, 0, name)
                    self.assertTrue(node.module.startswith("rowshares."), name)
                    self.assertIn(node, tree.body, name)

    def test_names(self):
        for name, text, tree in walk_files():
            bound = set(bound_names(tree))
            for word in bound - {"__init__"}:
                self.assertRegex(word, r"^[A-Za-z][A-Za-z0-9_]*$", name)
                self.assertNotIn(word, dir(builtins), name)
            for node in ast.walk(tree):
                if isinstance(node, ast.Name):
                    self.assertIn(node.id, bound | OWN_NAMES, (name, node.lineno))

    def test_methods_and_values(self):
        trees = [tree for name, text, tree in walk_files()]
        classes = [node for tree in trees for node in ast.walk(tree) if isinstance(node, ast.ClassDef)]
        own_methods = {node.name for own in classes for node in own.body if isinstance(node, ast.FunctionDef)}
        attributes = [node for tree in trees for node in ast.walk(tree) if isinstance(node, ast.Attribute)]
        values = {node.attr for node in attributes if isinstance(node.ctx, ast.Store)}
        self.assertEqual(own_methods & values, set())
        for node in attributes:
            self.assertIn(node.attr, own_methods | values | METHODS)


if __name__ == "__main__":
    unittest.main()
