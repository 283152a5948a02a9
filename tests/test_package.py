"""Point 1: nothing uses a clock, chance or files. So no file of the package draws from outside it."""

import ast
import pathlib
import unittest

import beltboxes

FOLDER = pathlib.Path(beltboxes.__file__).parent
REACHING_OUT = {"open", "input", "print", "eval", "exec", "compile", "__import__", "id", "hash", "globals"}


def trees():
    return [(path.name, ast.parse(path.read_text())) for path in sorted(FOLDER.rglob("*.py"))]


class NothingFromOutside(unittest.TestCase):
    def test_there_are_files(self):
        self.assertLessEqual(
            {"__init__.py", "errors.py", "signs.py", "checks.py"},
            {name for name, tree in trees()},
        )

    def test_imports_are_the_packages_own(self):
        for name, tree in trees():
            for node in ast.walk(tree):
                with self.subTest(file=name):
                    self.assertNotIsInstance(node, ast.Import)
                    if isinstance(node, ast.ImportFrom):
                        self.assertEqual(node.level, 0)
                        self.assertTrue(node.module.startswith("beltboxes."))

    def test_no_name_reaches_out(self):
        for name, tree in trees():
            names = {node.id for node in ast.walk(tree) if isinstance(node, ast.Name)}
            with self.subTest(file=name):
                self.assertEqual(names & REACHING_OUT, set())


if __name__ == "__main__":
    unittest.main()
