"""Point 1: nothing in the package uses a clock, chance or files; and the outer form of its files."""

import ast
import builtins
import pathlib
import unittest

PACKAGE = pathlib.Path(__file__).resolve().parent.parent / "ringcarve"

ALLOWED = set(
    "len range enumerate zip min max sum abs sorted reversed int str bool list tuple dict set frozenset "
    "isinstance ord repr any all divmod Exception ValueError TypeError KeyError IndexError LookupError "
    "ZeroDivisionError ArithmeticError OverflowError RuntimeError NotImplementedError StopIteration".split()
)


def sources():
    return sorted(PACKAGE.rglob("*.py"))


def python_names(tree):
    """The names of Python's own that a file reads, those that no import is needed for."""
    named = {node.id for node in ast.walk(tree) if isinstance(node, ast.Name)}
    return {name for name in named if hasattr(builtins, name) or name.startswith("__")}


class TestSources(unittest.TestCase):
    def test_the_files_are_found(self):
        names = [path.name for path in sources()]
        for name in ("__init__.py", "errors.py", "turns.py"):
            self.assertIn(name, names)

    def test_only_python_files(self):
        for path in PACKAGE.rglob("*"):
            if path.is_file() and "__pycache__" not in path.parts:
                self.assertEqual(path.suffix, ".py", path)

    def test_imports_are_the_package_s_own(self):
        for path in sources():
            for node in ast.walk(ast.parse(path.read_text("utf-8"))):
                self.assertNotIsInstance(node, ast.Import, path)
                if isinstance(node, ast.ImportFrom):
                    self.assertEqual(node.level, 0, path)
                    self.assertEqual(node.module.split(".")[0], "ringcarve", path)

    def test_names_of_python_s_own(self):
        for path in sources():
            self.assertEqual(python_names(ast.parse(path.read_text("utf-8"))) - ALLOWED, set(), path)

    def test_signs_and_size(self):
        for path in sources():
            rows = path.read_text("utf-8").split("\n")
            self.assertLessEqual(len(rows), 401, path)
            for row in rows:
                self.assertLessEqual(len(row), 120, path)
                self.assertTrue(all(" " <= sign <= "~" for sign in row), (path, row))


if __name__ == "__main__":
    unittest.main()
