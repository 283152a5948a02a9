"""Point 1: nothing uses a clock, chance or files. So no file of the package draws from outside it.

And the interface: its names and arguments are there as they stand.
"""

import ast
import importlib
import inspect
import pathlib
import unittest

import beltboxes

FOLDER = pathlib.Path(beltboxes.__file__).parent
REACHING_OUT = {"open", "input", "print", "eval", "exec", "compile", "__import__", "id", "hash", "globals"}
INTERFACE = {
    "signs": {"escaped": ["numbers"]},
    "checks": {"check_of": ["numbers"]},
    "writing": {"written": ["boxes"]},
    "reading": {
        "begun": [],
        "fed": ["state", "piece", "most"],
        "ended": ["state"],
        "told_by": ["pieces", "most"],
    },
    "parcels": {"boxes_of": ["parcel", "many"], "mixed": ["parcels", "many"], "sent": ["parcels", "many"]},
    "unpacking": {"unpacked": ["told"], "waiting": ["told"], "faults": ["told"]},
}


def trees():
    return [(path.name, ast.parse(path.read_text())) for path in sorted(FOLDER.rglob("*.py"))]


class NothingFromOutside(unittest.TestCase):
    def test_there_are_files(self):
        self.assertLessEqual(
            {"__init__.py", "errors.py"} | {f"{module}.py" for module in INTERFACE},
            {name for name, tree in trees()},
        )

    def test_imports_are_the_packages_own(self):
        for name, tree in trees():
            for node in ast.walk(tree):
                with self.subTest(file=name):
                    self.assertNotIsInstance(node, ast.Import)
                    if isinstance(node, ast.ImportFrom):
                        self.assertEqual(node.level, 0)
                        self.assertTrue(node.module.startswith("beltboxes."))

    def test_no_name_reaches_out(self):
        for name, tree in trees():
            names = {node.id for node in ast.walk(tree) if isinstance(node, ast.Name)}
            with self.subTest(file=name):
                self.assertEqual(names & REACHING_OUT, set())


class Interface(unittest.TestCase):
    def test_names_and_arguments(self):
        for module, functions in INTERFACE.items():
            for name, arguments in functions.items():
                with self.subTest(module=module, name=name):
                    function = getattr(importlib.import_module(f"beltboxes.{module}"), name)
                    self.assertEqual(list(inspect.signature(function).parameters), arguments)


if __name__ == "__main__":
    unittest.main()
