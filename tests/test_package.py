"""Point 1: nothing in the package uses a clock, chance or files."""

import ast
import os
import unittest

import pipelinecut

FOLDER = os.path.dirname(pipelinecut.__file__)
PURE = ("__future__", "collections", "heapq", "itertools", "math")
OUTSIDE = ("open", "input", "print", "exec", "eval", "compile", "__import__", "hash", "id")


def trees():
    """The syntax tree of each file of the package, with its path."""
    for folder, _, names in os.walk(FOLDER):
        for name in sorted(names):
            if name.endswith(".py"):
                path = os.path.join(folder, name)
                with open(path, encoding="utf-8") as file:
                    yield path, ast.parse(file.read())


class PackageTest(unittest.TestCase):
    def test_imports_nothing_from_outside(self):
        for path, tree in trees():
            for node in ast.walk(tree):
                with self.subTest(path=path):
                    self.assertNotIsInstance(node, ast.Import)
                    if isinstance(node, ast.ImportFrom):
                        self.assertEqual(node.level, 0)
                        self.assertIn(node.module.split(".")[0], PURE + ("pipelinecut",))

    def test_names_nothing_that_reaches_outside(self):
        for path, tree in trees():
            for node in ast.walk(tree):
                if isinstance(node, ast.Name):
                    with self.subTest(path=path):
                        self.assertNotIn(node.id, OUTSIDE)

    def test_files_are_found(self):
        names = [os.path.relpath(path, FOLDER) for path, _ in trees()]
        for name in ("errors.py", "nets.py", "states.py", "runs.py", "notes.py"):
            self.assertIn(name, names)


if __name__ == "__main__":
    unittest.main()
