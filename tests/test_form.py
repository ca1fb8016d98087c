"""The form of the package's own files: what the rules L1 to L28 let a short walk over the source see."""

import ast
import builtins
import pathlib
import re
import unittest

import longdeed

FOLDER = pathlib.Path(longdeed.__file__).parent
FILES = sorted(FOLDER.glob("*.py"))

OWN_NAMES = """len range enumerate zip min max sum abs sorted reversed int str bool list tuple dict set frozenset
isinstance ord repr any all divmod Exception ValueError TypeError KeyError IndexError LookupError ZeroDivisionError
ArithmeticError OverflowError RuntimeError NotImplementedError AttributeError StopIteration""".split()

WORDS_OUT = """type typing typing_extensions enum Enum IntEnum StrEnum Flag IntFlag Generic Protocol ABC ABCMeta
namedtuple NamedTuple TypedDict TYPE_CHECKING abstractmethod""".split()

NODES_OUT = """AsyncFunctionDef AsyncFor AsyncWith Await With Match Delete Global Nonlocal Assert Yield YieldFrom
SetComp DictComp GeneratorExp NamedExpr Starred Div Import Set AnnAssign""".split()


class FormTest(unittest.TestCase):

    def test_only_source_files_lie_in_the_package(self):
        there = {path.name for path in FOLDER.iterdir()} - {"__pycache__"}
        self.assertEqual(there, {"__init__.py", "desk.py"})

    def test_signs_and_sizes(self):
        for path in FILES:
            text = path.read_bytes().decode("ascii")
            self.assertIsNone(re.search("[^ -~\n]", text))
            self.assertTrue(text.endswith("\n"))
            self.assertLessEqual(len(text.splitlines()), 400)
            self.assertLessEqual(max(len(row) for row in text.splitlines()), 120)

    def test_words_that_stand_nowhere(self):
        for path in FILES:
            words = set(re.findall("[A-Za-z0-9_]+", path.read_text()))
            self.assertEqual(words & set(WORDS_OUT), set())
            self.assertIsNone(re.search("dataclass|overload|contextmanager", path.read_text()))

    def test_statements_and_expressions(self):
        for path in FILES:
            for node in ast.walk(ast.parse(path.read_text())):
                self.assertNotIn(node.__class__.__name__, NODES_OUT, (path.name, getattr(node, "lineno", 0)))
                if isinstance(node, ast.FunctionDef):
                    self.assertLessEqual(node.end_lineno - node.lineno + 1, 40, node.name)
                    self.assertEqual(node.decorator_list, [])
                if isinstance(node, ast.Constant):
                    self.assertIn(node.value.__class__, (int, str, bool, None.__class__))
                if isinstance(node, ast.ListComp):
                    self.assertEqual(len(node.generators), 1)
                if isinstance(node, ast.Assign):
                    self.assertEqual(len(node.targets), 1)

    def test_names(self):
        for path in FILES:
            for node in ast.walk(ast.parse(path.read_text())):
                if isinstance(node, ast.Name):
                    self.assertFalse(node.id.startswith("_"), node.id)
                    if hasattr(builtins, node.id):
                        self.assertIn(node.id, OWN_NAMES)
                        self.assertIsInstance(node.ctx, ast.Load)
                if isinstance(node, ast.arg):
                    self.assertFalse(hasattr(builtins, node.arg), node.arg)

    def test_nothing_is_imported(self):
        for path in FILES:
            for node in ast.walk(ast.parse(path.read_text())):
                self.assertNotIsInstance(node, (ast.Import, ast.ImportFrom))


if __name__ == "__main__":
    unittest.main()
