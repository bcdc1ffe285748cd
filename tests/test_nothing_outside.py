"""The package draws on its own files alone: no clock, no chance, no files."""

import ast
import builtins
import unittest
from pathlib import Path

PACKAGE = Path(__file__).resolve().parent.parent / "primecloth"

ALLOWED = frozenset(
    "len range enumerate zip min max sum abs sorted reversed int str bool list tuple dict set frozenset"
    " isinstance ord repr any all divmod Exception ValueError TypeError KeyError IndexError LookupError"
    " ZeroDivisionError ArithmeticError OverflowError RuntimeError NotImplementedError AttributeError"
    " StopIteration".split())


def package_trees():
    return [(path.name, ast.parse(path.read_text("utf-8"))) for path in sorted(PACKAGE.rglob("*.py"))]


class NothingOutsideTest(unittest.TestCase):
    def test_the_package_is_there(self):
        names = [name for name, tree in package_trees()]
        for name in ("__init__.py", "errors.py", "remainders.py", "rows.py", "dividing.py", "points.py",
                     "sharing.py", "roots.py"):
            self.assertIn(name, names)

    def test_only_the_packages_own_files_are_imported(self):
        for name, tree in package_trees():
            for node in ast.walk(tree):
                self.assertNotIsInstance(node, ast.Import, name)
                if isinstance(node, ast.ImportFrom):
                    self.assertEqual(node.level, 0, name)
                    self.assertTrue(node.module.startswith("primecloth."), (name, node.module))

    def test_no_built_in_that_reaches_outside(self):
        for name, tree in package_trees():
            for node in ast.walk(tree):
                if isinstance(node, ast.Name) and hasattr(builtins, node.id):
                    self.assertIn(node.id, ALLOWED, (name, node.lineno))


if __name__ == "__main__":
    unittest.main()
