"""The package keeps to its small part of Python, as far as a test can see it."""

import ast
import builtins
import pathlib
import re
import unittest

PACKAGE = pathlib.Path(__file__).resolve().parent.parent / "undowords"

STATEMENTS = (
    ast.FunctionDef, ast.ClassDef, ast.ImportFrom, ast.Assign, ast.AugAssign, ast.If, ast.While, ast.For,
    ast.Return, ast.Break, ast.Continue, ast.Pass, ast.Raise, ast.Try, ast.Expr,
)
EXPRESSIONS = (
    ast.Constant, ast.List, ast.Tuple, ast.Dict, ast.Set, ast.BinOp, ast.UnaryOp, ast.Compare, ast.BoolOp,
    ast.IfExp, ast.Call, ast.Attribute, ast.Subscript, ast.Slice, ast.ListComp, ast.JoinedStr, ast.FormattedValue,
    ast.Lambda, ast.Name,
)
OWN_NAMES = set(
    "len range enumerate zip min max sum abs sorted reversed int str bool list tuple dict set frozenset isinstance "
    "ord repr any all divmod Exception ValueError TypeError KeyError IndexError LookupError ZeroDivisionError "
    "ArithmeticError OverflowError RuntimeError NotImplementedError AttributeError StopIteration".split()
)
METHODS = set(
    "append clear copy count endswith extend find get index insert isalnum isalpha isdigit islower isspace isupper "
    "items join keys ljust lower lstrip partition pop remove replace reverse rfind rjust rpartition rsplit rstrip "
    "setdefault split splitlines startswith strip update upper values zfill bit_length".split()
)
SPECIAL = ("__init__", "__eq__", "__repr__", "__str__", "__len__")
WORDS_OUT = re.compile(
    r"\b(type|typing|typing_extensions|enum|Enum|IntEnum|StrEnum|Flag|IntFlag|Generic|Protocol|ABC|ABCMeta|"
    r"namedtuple|NamedTuple|TypedDict|TYPE_CHECKING|abstractmethod)\b|dataclass|overload|contextmanager"
)


def own_attributes():
    kinds = (str, int, list, dict, set, bytes, tuple)
    return {name for kind in kinds for name in dir(kind)}


class Language(unittest.TestCase):
    def setUp(self):
        self.files = sorted(PACKAGE.rglob("*.py"))
        self.texts = {path: path.read_bytes().decode("ascii") for path in self.files}
        self.nodes = [(path, node) for path in self.files for node in ast.walk(ast.parse(self.texts[path]))]

    def test_nothing_but_plain_files(self):
        self.assertTrue(self.files)
        for path in PACKAGE.rglob("*"):
            if "__pycache__" not in path.parts:
                self.assertTrue(path.name == "__init__.py" or re.fullmatch(r"[a-z][a-z0-9_]*\.py", path.name), path)

    def test_signs_sizes_and_words(self):
        for path, text in self.texts.items():
            self.assertIsNone(re.search(r"[^ -~\n]", text), path)
            self.assertIsNone(WORDS_OUT.search(text), path)
            self.assertLessEqual(text.count("\n"), 400, path)
            self.assertLessEqual(max(len(row) for row in text.split("\n")), 120, path)

    def test_functions_are_short_and_plain(self):
        for path, node in self.nodes:
            if isinstance(node, ast.FunctionDef):
                self.assertLessEqual(node.end_lineno - node.lineno + 1, 40, (path, node.name))
                self.assertFalse(node.decorator_list or node.returns, (path, node.name))
                told = node.args
                self.assertFalse(told.vararg or told.kwarg or told.kwonlyargs or told.posonlyargs, (path, node.name))

    def test_statements_and_expressions(self):
        for path, node in self.nodes:
            where = (path, getattr(node, "lineno", 0))
            if isinstance(node, ast.stmt):
                self.assertIsInstance(node, STATEMENTS, where)
            if isinstance(node, ast.expr):
                self.assertIsInstance(node, EXPRESSIONS, where)
            if isinstance(node, ast.Constant):
                self.assertIsInstance(node.value, (int, str, bool, type(None)), where)
            if isinstance(node, ast.Assign):
                self.assertEqual(len(node.targets), 1, where)
                self.assertNotIsInstance(node.targets[0], (ast.Tuple, ast.List), where)
            if isinstance(node, (ast.For, ast.While)):
                self.assertFalse(node.orelse, where)
            self.assertNotIsInstance(node, (ast.Div, ast.MatMult, ast.Starred, ast.SetComp, ast.DictComp), where)

    def test_imports_are_the_packages_own(self):
        for path, node in self.nodes:
            if isinstance(node, ast.ImportFrom):
                self.assertEqual(node.level, 0, path)
                self.assertTrue(node.module.startswith("undowords."), path)
                source = PACKAGE / (node.module.split(".")[1] + ".py")
                defined = {getattr(part, "name", None) for part in ast.parse(self.texts[source]).body}
                for alias in node.names:
                    self.assertIn(alias.name, defined, path)

    def test_names(self):
        for path, node in self.nodes:
            name = getattr(node, "id", None) or getattr(node, "arg", None) or getattr(node, "name", None)
            if isinstance(node, (ast.Name, ast.arg, ast.FunctionDef, ast.ClassDef)):
                self.assertTrue(name in SPECIAL or not name.startswith("_"), (path, name))
                read_only = isinstance(node, ast.Name) and isinstance(node.ctx, ast.Load)
                if name in dir(builtins):
                    self.assertTrue(read_only and name in OWN_NAMES, (path, name))

    def test_methods(self):
        taken = own_attributes()
        for path, node in self.nodes:
            if isinstance(node, ast.Attribute) and node.attr in taken and node.attr not in SPECIAL:
                self.assertIn(node.attr, METHODS, path)


if __name__ == "__main__":
    unittest.main()
