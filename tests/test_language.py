"""Holds the package's files against the rules of ../shared/LANGUAGE.md that are told by counting and by names."""

import ast
import builtins
import contextlib
import io
import pathlib
import re
import unittest

from squarepairs.others import answers

PACKAGE = pathlib.Path(__file__).resolve().parent.parent / "squarepairs"
FILES = sorted(path for path in PACKAGE.rglob("*") if path.is_file() and path.parent.name != "__pycache__")

STATEMENTS = (
    ast.Assign, ast.AugAssign, ast.If, ast.While, ast.For, ast.Return, ast.Break, ast.Continue, ast.Pass,
    ast.Raise, ast.Try, ast.FunctionDef,
)
PYTHONS_OWN = set(
    "len range enumerate zip min max sum abs sorted reversed int str bool list tuple dict set isinstance ord repr"
    " any all divmod Exception ValueError KeyError IndexError LookupError ZeroDivisionError ArithmeticError"
    " OverflowError RuntimeError NotImplementedError".split()
)
METHODS = set("append copy count extend get index insert items join keys pop remove values".split())
WORDS_OUT = re.compile(
    r"\b(type|typing|typing_extensions|enum|Enum|IntEnum|StrEnum|Flag|IntFlag|Generic|Protocol|ABC|ABCMeta"
    r"|namedtuple|NamedTuple|TypedDict|TYPE_CHECKING|abstractmethod|register|mro|elements|open|input)\b"
    r"|dataclass|overload|contextmanager"
)
FORMS_OUT = (
    ast.Import, ast.ImportFrom, ast.Div, ast.Pow, ast.Set, ast.SetComp, ast.DictComp, ast.GeneratorExp,
    ast.NamedExpr, ast.Starred, ast.Await, ast.Is, ast.IsNot,
)


def nodes_of(path):
    return list(ast.walk(ast.parse(path.read_text(encoding="ascii"))))


class TestLanguage(unittest.TestCase):
    def test_only_python_files_with_plain_names(self):
        self.assertEqual([path.name for path in FILES], ["__init__.py", "others.py"])

    def test_signs_and_size(self):
        for path in FILES:
            text = path.read_text(encoding="ascii")
            self.assertIsNone(re.search(r"[^ -~\n]", text))
            self.assertIsNone(WORDS_OUT.search(text))
            lines = text.split("\n")
            self.assertLessEqual(len(lines), 400)
            self.assertLessEqual(max(len(line) for line in lines), 120)

    def test_functions(self):
        for path in FILES:
            for node in nodes_of(path):
                if isinstance(node, ast.FunctionDef):
                    self.assertLessEqual(node.end_lineno - node.lineno + 1, 40, node.name)
                    self.assertEqual(node.decorator_list, [])
                    self.assertIsNone(node.args.vararg or node.args.kwarg)

    def test_statements(self):
        for path in FILES:
            for node in nodes_of(path):
                if isinstance(node, (ast.FunctionDef, ast.If, ast.While, ast.For)):
                    for statement in node.body:
                        call = isinstance(statement, ast.Expr) and isinstance(statement.value, ast.Call)
                        self.assertTrue(call or isinstance(statement, STATEMENTS), ast.dump(statement))
                if isinstance(node, ast.Assign):
                    self.assertEqual(len(node.targets), 1)
                    self.assertNotIsInstance(node.targets[0], (ast.Tuple, ast.List))

    def test_forms_that_are_out(self):
        for path in FILES:
            for node in nodes_of(path):
                self.assertNotIsInstance(node, FORMS_OUT)
                if isinstance(node, ast.Constant):
                    self.assertIn(type(node.value), (int, str, bool, type(None)))

    def test_names(self):
        for path in FILES:
            for node in nodes_of(path):
                if isinstance(node, ast.Name) and hasattr(builtins, node.id):
                    self.assertIn(node.id, PYTHONS_OWN)
                    self.assertIsInstance(node.ctx, ast.Load)
                if isinstance(node, (ast.arg, ast.FunctionDef, ast.ClassDef)):
                    name = node.arg if isinstance(node, ast.arg) else node.name
                    plain = not name.startswith("_") and not hasattr(builtins, name)
                    self.assertTrue(plain or name == "__init__", name)

    def test_methods(self):
        for path in FILES:
            for node in nodes_of(path):
                if isinstance(node, ast.Call) and isinstance(node.func, ast.Attribute):
                    self.assertIn(node.func.attr, METHODS)

    def test_nothing_is_printed(self):
        out = io.StringIO()
        with contextlib.redirect_stdout(out), contextlib.redirect_stderr(out):
            answers([0, 2, 1, 13, 2, 3, 4, 5, 3, 2, 6, 3, 2, 7, 3, 2, 8, 9])
            answers([0, 53, 9, 9, 10, 1, 2, 11, 1, 2, 12, 1, 2, 13, 2, 14, 2, 9, 15, 9, 2, 16, 9, 17, 13, 1])
        self.assertEqual(out.getvalue(), "")


if __name__ == "__main__":
    unittest.main()
