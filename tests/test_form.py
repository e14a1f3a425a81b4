"""The package's own files: nothing from outside, and so no clock, chance or files; and their size and signs."""

import ast
import builtins
import os
import subprocess
import sys
import unittest

ROOT = os.path.dirname(os.path.dirname(os.path.abspath(__file__)))
PACKAGE = os.path.join(ROOT, "slipdesk")
FILES = ("__init__.py", "books.py", "day.py", "errors.py", "merging.py")
BUILT_IN = (
    "len range enumerate zip min max sum abs sorted reversed int str bool list tuple dict set frozenset isinstance "
    "ord repr any all divmod Exception ValueError TypeError KeyError IndexError LookupError ZeroDivisionError "
    "ArithmeticError OverflowError RuntimeError NotImplementedError AttributeError StopIteration"
).split()
METHODS = (
    "append clear copy count endswith extend find get index insert isalnum isalpha isdigit islower isspace isupper "
    "items join keys ljust lower lstrip partition pop remove replace reverse rfind rjust rpartition rsplit rstrip "
    "setdefault split splitlines startswith strip update upper values zfill bit_length"
).split()
OUTSIDE = (
    ast.With, ast.Match, ast.Delete, ast.Global, ast.Nonlocal, ast.Assert, ast.Yield, ast.YieldFrom, ast.Await,
    ast.AsyncFunctionDef, ast.AsyncFor, ast.AsyncWith, ast.SetComp, ast.DictComp, ast.GeneratorExp, ast.NamedExpr,
    ast.Starred, ast.Div, ast.MatMult,
)

DAY = """
from slipdesk.day import books_behind, things_behind
deeds = [("put", step % 3, "abcdefghij"[step * 7 % 10] * (1 + step % 4)) for step in range(90)]
deeds += [("hear", step % 3, step % 2) for step in range(7)] + [("take", 0, "b"), ("hear", 2, 0)]
print(books_behind(3, deeds), things_behind(3, deeds))
"""


def sources():
    for name in FILES:
        with open(os.path.join(PACKAGE, name), encoding="utf-8", newline="") as file:
            yield name, file.read()


class FormTest(unittest.TestCase):
    def test_the_files(self):
        # What an interpreter leaves behind is no file of the package.
        names = [name for name in os.listdir(PACKAGE) if name != "__pycache__"]
        self.assertEqual(sorted(names), sorted(FILES))

    def test_imports_are_the_package_s_own(self):
        for name, text in sources():
            for node in ast.walk(ast.parse(text)):
                self.assertNotIsInstance(node, ast.Import, name)
                if isinstance(node, ast.ImportFrom):
                    self.assertEqual(node.level, 0, name)
                    self.assertIn(node.module, ("slipdesk.errors", "slipdesk.books", "slipdesk.merging"), name)
                    for alias in node.names:
                        self.assertNotEqual(alias.name, "*", name)

    def test_names_and_methods_of_python_s_own(self):
        for name, text in sources():
            for node in ast.walk(ast.parse(text)):
                if isinstance(node, ast.Name) and hasattr(builtins, node.id):
                    self.assertIn(node.id, BUILT_IN, name)
                    self.assertIsInstance(node.ctx, ast.Load, name)
                if isinstance(node, ast.Attribute):
                    self.assertIn(node.attr, METHODS, name)

    def test_forms_outside_the_language(self):
        for name, text in sources():
            for node in ast.walk(ast.parse(text)):
                self.assertNotIsInstance(node, OUTSIDE, name)
                self.assertEqual(getattr(node, "decorator_list", []), [], name)
                if isinstance(node, (ast.For, ast.While)):
                    self.assertEqual(node.orelse, [], name)
                if isinstance(node, ast.Constant):
                    self.assertNotIsInstance(node.value, (float, bytes, complex), name)

    def test_signs_and_sizes(self):
        for name, text in sources():
            self.assertEqual([sign for sign in text if sign != "\n" and not " " <= sign <= "~"], [], name)
            lines = text.split("\n")
            self.assertLessEqual(len(lines), 400, name)
            self.assertLessEqual(max(len(line) for line in lines), 120, name)
            for node in ast.walk(ast.parse(text)):
                if isinstance(node, ast.FunctionDef):
                    self.assertLessEqual(node.end_lineno - node.lineno + 1, 40, name)

    def test_nothing_is_kept_from_one_call_to_the_next(self):
        allowed = (ast.Expr, ast.ImportFrom, ast.FunctionDef, ast.ClassDef)
        for name, text in sources():
            for node in ast.parse(text).body:
                self.assertIsInstance(node, allowed, name)

    def test_same_answers_whatever_the_order_of_sets(self):
        answers = set()
        for seed in ("0", "1", "2", "3"):
            own = dict(os.environ, PYTHONHASHSEED=seed, PYTHONPATH=ROOT, PYTHONDONTWRITEBYTECODE="1")
            run = subprocess.run([sys.executable, "-c", DAY], env=own, capture_output=True, text=True, check=True)
            answers.add(run.stdout)
        self.assertEqual(len(answers), 1)


if __name__ == "__main__":
    unittest.main()
