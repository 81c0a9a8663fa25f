"""The package's own files keep to the small part of Python that the program is written in."""

import ast
import builtins
import re
import unittest
from pathlib import Path

PACKAGE = Path(__file__).resolve().parent.parent / "keylock"
FILES = sorted(path for path in PACKAGE.rglob("*") if path.is_file() and "__pycache__" not in path.parts)

OWN_NAMES = set(
    "len range enumerate zip min max sum abs sorted reversed int str bool list tuple dict set frozenset isinstance "
    "ord repr any all divmod Exception ValueError TypeError KeyError IndexError LookupError ZeroDivisionError "
    "ArithmeticError OverflowError RuntimeError NotImplementedError AttributeError StopIteration".split()
)
OWN_METHODS = set(
    "append clear copy count endswith extend find get index insert isalnum isalpha isdigit islower isspace isupper "
    "items join keys ljust lower lstrip partition pop remove replace reverse rfind rjust rpartition rsplit rstrip "
    "setdefault split splitlines startswith strip update upper values zfill bit_length".split()
)
NOT_USED = set(
    "register mro elements open input version_info with_traceback add_note format format_map sort "
    "attrgetter breakpoint compile delattr dir eval exec exit gc getattr globals hasattr help id importlib locals "
    "methodcaller os quit setattr super vars sys".split()
)
WORDS_NOT_USED = re.compile(
    r"\b(type|typing|typing_extensions|enum|Enum|IntEnum|StrEnum|Flag|IntFlag|Generic|Protocol|ABC|ABCMeta|"
    r"namedtuple|NamedTuple|TypedDict|TYPE_CHECKING|abstractmethod)\b|dataclass|overload|contextmanager"
)
STATEMENTS = (
    ast.Assign, ast.AugAssign, ast.If, ast.While, ast.For, ast.Return, ast.Break, ast.Continue, ast.Pass, ast.Raise,
    ast.Try, ast.Expr, ast.FunctionDef, ast.ClassDef,
)
EXPRESSIONS = (
    ast.BoolOp, ast.BinOp, ast.UnaryOp, ast.Lambda, ast.IfExp, ast.Dict, ast.Set, ast.ListComp, ast.Compare, ast.Call,
    ast.FormattedValue, ast.JoinedStr, ast.Constant, ast.Attribute, ast.Subscript, ast.Name, ast.List, ast.Tuple,
    ast.Slice,
)


def trees():
    return [(path, ast.parse(path.read_text())) for path in FILES]


def nodes(kind):
    return [(path, node) for path, tree in trees() for node in ast.walk(tree) if isinstance(node, kind)]


def bound_names(tree):
    names = {node.id for node in ast.walk(tree) if isinstance(node, ast.Name) and isinstance(node.ctx, ast.Store)}
    names |= {node.arg for node in ast.walk(tree) if isinstance(node, ast.arg)}
    return names | {node.name for node in ast.walk(tree) if isinstance(node, (ast.FunctionDef, ast.ClassDef))}


class Files(unittest.TestCase):
    def test_names(self):
        self.assertIn(PACKAGE / "__init__.py", FILES)
        self.assertIn(PACKAGE / "keys.py", FILES)
        for path in FILES:
            self.assertRegex(path.name, r"^[a-z0-9_]+\.py$")

    def test_signs_and_words(self):
        for path in FILES:
            text = path.read_bytes().decode("ascii")
            self.assertRegex(text, r"^[ -~\n]*$")
            self.assertIsNone(WORDS_NOT_USED.search(text), path)

    def test_sizes(self):
        for path in FILES:
            rows = path.read_text().splitlines()
            self.assertLessEqual(len(rows), 400)
            self.assertLessEqual(max(len(row) for row in rows), 120)
        for path, node in nodes(ast.FunctionDef):
            self.assertLessEqual(node.end_lineno - node.lineno + 1, 40, node.name)


class Code(unittest.TestCase):
    def test_nothing_is_imported(self):
        self.assertEqual(nodes((ast.Import, ast.ImportFrom)), [])

    def test_statements_and_expressions(self):
        for path, node in nodes(ast.stmt):
            self.assertIsInstance(node, STATEMENTS, f"{path}:{node.lineno}")
        for path, node in nodes(ast.expr):
            self.assertIsInstance(node, EXPRESSIONS, f"{path}:{node.lineno}")
        for path, node in nodes(ast.Constant):
            self.assertIsInstance(node.value, (int, str, type(None)))
        self.assertEqual(nodes((ast.Div, ast.Pow)), [])

    def test_forms_of_statements(self):
        for path, node in nodes(ast.Assign):
            self.assertEqual(len(node.targets), 1)
            self.assertNotIsInstance(node.targets[0], (ast.Tuple, ast.List))
        for path, node in nodes((ast.For, ast.While)):
            self.assertEqual(node.orelse, [])
        for path, node in nodes(ast.ListComp):
            self.assertEqual(len(node.generators), 1)
            self.assertLessEqual(len(node.generators[0].ifs), 1)
        for path, node in nodes((ast.FunctionDef, ast.ClassDef)):
            self.assertEqual(node.decorator_list, [])

    def test_top_of_a_file(self):
        for path, tree in trees():
            self.assertIsNotNone(ast.get_docstring(tree))
            for node in tree.body[1:]:
                self.assertIsInstance(node, (ast.Assign, ast.FunctionDef, ast.ClassDef))

    def test_names(self):
        for path, tree in trees():
            own = bound_names(tree)
            for name in own:
                self.assertTrue(name == "__init__" or not name.startswith("_"), name)
                self.assertNotIn(name, dir(builtins))
                self.assertNotIn(name, NOT_USED)
            for node in ast.walk(tree):
                if isinstance(node, ast.Name):
                    self.assertIn(node.id, own | OWN_NAMES)

    def test_methods_and_values(self):
        python_names = {name for kind in (str, int, list, dict, set, bytes) for name in dir(kind)}
        for path, tree in trees():
            classes = [node for node in tree.body if isinstance(node, ast.ClassDef)]
            methods = {method.name for node in classes for method in node.body if isinstance(method, ast.FunctionDef)}
            for node in ast.walk(tree):
                if not isinstance(node, ast.Attribute):
                    continue
                self.assertNotIn(node.attr, NOT_USED)
                if isinstance(node.ctx, ast.Store):
                    self.assertNotIn(node.attr, python_names)
                    self.assertNotIn(node.attr, methods)
                if node.attr in python_names:
                    self.assertIn(node.attr, OWN_METHODS)


if __name__ == "__main__":
    unittest.main()
