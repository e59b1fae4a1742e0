"""The package's own files keep to the small part of Python that the program is written in. What is looked at here
is what can be seen from the form alone; the numbers are those of the rules."""

import ast
import re
import unittest
from pathlib import Path

PACKAGE = Path(__file__).resolve().parent.parent / "yourorder"
FILES = sorted(path for path in PACKAGE.rglob("*") if path.is_file() and "__pycache__" not in path.parts)

STATEMENTS = (ast.Assign, ast.AugAssign, ast.If, ast.While, ast.For, ast.Return, ast.Break, ast.Continue, ast.Pass,
              ast.Raise, ast.Try, ast.ExceptHandler, ast.Expr, ast.FunctionDef, ast.ClassDef, ast.ImportFrom)
EXPRESSIONS = (ast.Constant, ast.List, ast.Tuple, ast.Dict, ast.BinOp, ast.UnaryOp, ast.BoolOp, ast.Compare, ast.IfExp,
               ast.Call, ast.Attribute, ast.Subscript, ast.Slice, ast.ListComp, ast.comprehension, ast.JoinedStr,
               ast.FormattedValue, ast.Lambda, ast.Name)
OTHERS = (ast.Module, ast.arguments, ast.arg, ast.keyword, ast.alias, ast.expr_context, ast.operator, ast.unaryop,
          ast.boolop, ast.cmpop)
OWN_NAMES_OF_PYTHON = set("""
    len range enumerate zip min max sum abs sorted reversed int str bool list tuple dict set frozenset isinstance ord
    repr any all divmod Exception ValueError TypeError KeyError IndexError LookupError ZeroDivisionError
    ArithmeticError OverflowError RuntimeError NotImplementedError AttributeError StopIteration""".split())
METHODS = set("__init__ __eq__ __repr__ __str__ __len__".split())
WORDS_NOT_USED = re.compile(
    r"\b(type|typing|typing_extensions|enum|Enum|IntEnum|StrEnum|Flag|IntFlag|Generic|Protocol|ABC|ABCMeta|namedtuple"
    r"|NamedTuple|TypedDict|TYPE_CHECKING|abstractmethod)\b|dataclass|overload|contextmanager")
NAMES_NOT_USED = ("register", "mro", "elements", "open", "input", "version_info", "with_traceback", "add_note",
                  "format", "format_map")
METHODS_OF_PYTHONS_OWN = set("""
    append clear copy count endswith extend find get index insert isalnum isalpha isdigit islower isspace isupper items
    join keys ljust lower lstrip partition pop remove replace reverse rfind rjust rpartition rsplit rstrip setdefault
    split splitlines startswith strip update upper values zfill bit_length""".split())
NOT_AS_VALUES = set("""
    items keys values pop update append clear extend insert remove reverse setdefault sort args encode
    format""".split())
WALKED_AT_ONCE = ("zip", "enumerate", "reversed", "range")
WALKING = ("list", "tuple", "dict", "sorted", "sum", "any", "all", "enumerate", "zip")


def read(path):
    return path.read_text(encoding="utf-8")


def trees():
    return [(path, ast.parse(read(path))) for path in FILES]


def nodes(*kinds):
    return [(path.name, node) for path, tree in trees() for node in ast.walk(tree) if isinstance(node, kinds)]


def names_bound(tree):
    """Each name that a file gives a meaning to."""
    bound = set()
    for node in ast.walk(tree):
        if isinstance(node, (ast.FunctionDef, ast.ClassDef)):
            bound.add(node.name)
        elif isinstance(node, ast.arg):
            bound.add(node.arg)
        elif isinstance(node, ast.Name) and isinstance(node.ctx, ast.Store):
            bound.add(node.id)
        elif isinstance(node, ast.alias):
            bound.add(node.asname or node.name)
    return bound


def methods_and_values():
    """The names of the methods that the package's classes have, and of the values that its objects are given."""
    methods = {function.name for _, node in nodes(ast.ClassDef) for function in node.body
               if isinstance(function, ast.FunctionDef)}
    values = {node.attr for _, node in nodes(ast.Attribute) if isinstance(node.ctx, ast.Store)}
    return methods - METHODS, values


def is_call_of(node, names):
    return isinstance(node, ast.Call) and isinstance(node.func, ast.Name) and node.func.id in names


class LanguageTest(unittest.TestCase):
    def test_files(self):  # L1, L14
        self.assertIn(PACKAGE / "__init__.py", FILES)
        for path in FILES:
            self.assertRegex(path.name, r"^(__init__|[a-z][a-z0-9_]*)\.py$")

    def test_signs_and_sizes(self):  # L10, L14, L17
        for path in FILES:
            rows = read(path).split("\n")
            self.assertLessEqual(len(rows), 400, path)
            for number, row in enumerate(rows, start=1):
                self.assertRegex(row, r"^[ -~]{0,120}$", (path, number))
                self.assertIsNone(WORDS_NOT_USED.search(row), (path, number))
        for name, node in nodes(ast.FunctionDef):
            self.assertLessEqual(node.end_lineno - node.lineno + 1, 40, (name, node.name))

    def test_forms(self):  # L4 to L7, L20, L21
        for name, node in nodes(ast.AST):
            where = (name, getattr(node, "lineno", None), node)
            self.assertIsInstance(node, STATEMENTS + EXPRESSIONS + OTHERS, where)
            self.assertNotIsInstance(node, (ast.Div, ast.MatMult), where)
            self.assertFalse(getattr(node, "decorator_list", []), where)
            self.assertFalse(getattr(node, "finalbody", []), where)
            if isinstance(node, (ast.For, ast.While)):
                self.assertFalse(node.orelse, where)
            if isinstance(node, ast.Assign):
                self.assertEqual(len(node.targets), 1, where)
            if isinstance(node, ast.Constant):
                self.assertIsInstance(node.value, (int, str, type(None)), where)
            if isinstance(node, ast.ListComp):
                self.assertEqual(len(node.generators), 1, where)
                self.assertLessEqual(len(node.generators[0].ifs), 1, where)
            if isinstance(node, ast.arguments):
                self.assertFalse(node.vararg or node.kwarg or node.kwonlyargs or node.posonlyargs, where)

    def test_texts_stand_alone_at_a_files_top_only(self):  # L3, L6
        for path, tree in trees():
            for node in ast.walk(tree):
                if isinstance(node, ast.Expr) and node is not tree.body[0]:
                    self.assertIsInstance(node.value, ast.Call, (path, node.lineno))
            for node in tree.body:
                self.assertIsInstance(node, (ast.Expr, ast.ImportFrom, ast.FunctionDef, ast.ClassDef, ast.Assign), path)

    def test_imports(self):  # L2, L16
        for name, node in nodes(ast.ImportFrom):
            self.assertEqual(node.level, 0, name)
            self.assertRegex(node.module, r"^yourorder\.[a-z_]+$", name)
            self.assertNotIn("*", [alias.name for alias in node.names], name)

    def test_names(self):  # L8, L12, L15, L17
        for path, tree in trees():
            bound = names_bound(tree)
            for name in bound - METHODS:
                self.assertRegex(name, r"^[A-Za-z][A-Za-z0-9_]*$", path)
                self.assertNotIn(name, NAMES_NOT_USED, path)
                self.assertNotIn(name, dir(__import__("builtins")), path)
            for node in ast.walk(tree):
                if isinstance(node, ast.Name) and isinstance(node.ctx, ast.Load):
                    self.assertIn(node.id, bound | OWN_NAMES_OF_PYTHON, (path, node.lineno))
                if isinstance(node, ast.Attribute):
                    self.assertNotIn(node.attr, NAMES_NOT_USED, (path, node.lineno))

    def test_methods_and_values(self):  # L18, L25, L26
        methods, values = methods_and_values()
        self.assertFalse(methods & values)
        self.assertFalse(values & NOT_AS_VALUES)
        called = {node.func.attr for _, node in nodes(ast.Call) if isinstance(node.func, ast.Attribute)}
        self.assertLessEqual(called, METHODS_OF_PYTHONS_OWN | methods)
        own = {name for kind in (str, int, list, dict, set, bytes) for name in dir(kind)}
        self.assertLessEqual(methods & own, METHODS_OF_PYTHONS_OWN | {"add", "discard"})

    def test_walked_at_once(self):  # L23
        for name, node in nodes(ast.AST):
            walked = [node.iter] if isinstance(node, (ast.For, ast.comprehension)) else []
            if is_call_of(node, WALKING):
                walked = node.args[:1]
            for part in ast.iter_child_nodes(node):
                if is_call_of(part, WALKED_AT_ONCE):
                    self.assertTrue(any(part is each for each in walked), (name, part.lineno))

    def test_what_a_class_holds(self):  # L5
        for name, node in nodes(ast.ClassDef):
            self.assertLessEqual(len(node.bases), 1, name)
            for part in node.body:
                self.assertIsInstance(part, (ast.FunctionDef, ast.Pass), (name, part.lineno))


if __name__ == "__main__":
    unittest.main()
