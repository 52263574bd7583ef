"""Point 1: the package reckons with whole numbers and uses nothing else."""

import ast
import pathlib
import unittest

import nearfrac

FOLDER = pathlib.Path(nearfrac.__file__).parent
LIBRARY = ("math",)
OUTSIDE = ("open", "input", "print", "eval", "exec", "compile", "float",
           "__import__")


def files():
    """The files of the package, but for what Python itself keeps there."""
    return [path for path in sorted(FOLDER.rglob("*"))
            if path.is_file() and "__pycache__" not in path.parts]


def nodes(path):
    """Every part of a file's syntax tree."""
    return ast.walk(ast.parse(path.read_text(encoding="ascii")))


class PackageTest(unittest.TestCase):

    def test_it_holds_python_files_alone(self):
        self.assertIn(FOLDER / "__init__.py", files())
        for path in files():
            with self.subTest(path.name):
                self.assertEqual(path.suffix, ".py")

    def test_it_imports_no_clock_chance_or_file(self):
        for path in files():
            for node in nodes(path):
                self.assertNotIsInstance(node, ast.Import, path.name)
                if isinstance(node, ast.ImportFrom):
                    first = node.module.split(".")[0]
                    self.assertIn(first, ("nearfrac",) + LIBRARY, path.name)

    def test_it_names_nothing_that_reads_or_writes_or_rounds(self):
        for path in files():
            for node in nodes(path):
                if isinstance(node, ast.Name):
                    self.assertNotIn(node.id, OUTSIDE, path.name)

    def test_it_divides_whole_numbers_alone(self):
        for path in files():
            for node in nodes(path):
                self.assertNotIsInstance(node, ast.Div, path.name)


if __name__ == "__main__":
    unittest.main()
