"""The interface: names, arguments and places; point 1: what the package leans on."""

import ast
import inspect
import pathlib
import unittest

from figrow import adding, dividing, errors, halves, rows, texts

PACKAGE = pathlib.Path(rows.__file__).parent

ARGUMENTS = {
    rows: {
        "is_base": ["base"],
        "is_figure": ["base", "figure"],
        "is_row": ["base", "row"],
        "row_of": ["base", "number"],
        "number_of": ["base", "row"],
        "trimmed": ["figures"],
        "order": ["one", "other"],
    },
    adding: {
        "added": ["base", "one", "other"],
        "taken": ["base", "one", "other"],
        "scaled": ["base", "row", "figure"],
        "shifted": ["base", "row", "places"],
    },
    halves: {
        "slow": ["base", "one", "other"],
        "product": ["base", "one", "other", "least"],
        "effort": ["base", "one", "other", "least"],
    },
    dividing: {
        "parted": ["base", "row", "figure"],
        "divided": ["base", "one", "other"],
        "ladder": ["base", "one", "other"],
        "turned": ["base", "row", "other"],
    },
    texts: {
        "written": ["base", "row"],
        "read": ["base", "line"],
    },
}

CLASSES = ["RowError", "NoBase", "NoRow", "NoFigure", "NoCount", "BelowNought", "ByNought"]


class Interface(unittest.TestCase):
    def test_functions_and_their_arguments(self):
        for module, functions in ARGUMENTS.items():
            for name, arguments in functions.items():
                with self.subTest(name):
                    function = getattr(module, name)
                    self.assertTrue(inspect.isfunction(function))
                    self.assertEqual(function.__module__, module.__name__)
                    told = inspect.signature(function).parameters.values()
                    self.assertEqual([each.name for each in told], arguments)
                    self.assertTrue(all(each.default is each.empty for each in told))

    def test_classes(self):
        for name in CLASSES:
            self.assertEqual(getattr(errors, name).__module__, "figrow.errors")

    def test_bounds_of_bases(self):
        self.assertIs(type(rows.LEAST_BASE), int)
        self.assertIs(type(rows.MOST_BASE), int)
        self.assertEqual((rows.LEAST_BASE, rows.MOST_BASE), (2, 1000000))

    def test_least_of_the_way_of_halves(self):
        self.assertIs(type(halves.LEAST), int)
        self.assertEqual(halves.LEAST, 3)


class Package(unittest.TestCase):
    def files(self):
        return [path for path in PACKAGE.iterdir() if path.name != "__pycache__"]

    def test_only_plain_files(self):
        for path in self.files():
            self.assertRegex(path.name, r"\A[a-z0-9_]+\.py\Z")

    def test_imports_only_from_the_package(self):
        # No clock, chance or files: each of them would have to be imported, or is a builtin.
        for path in self.files():
            for node in ast.walk(ast.parse(path.read_text())):
                self.assertNotIsInstance(node, ast.Import)
                if isinstance(node, ast.ImportFrom):
                    self.assertEqual(node.level, 0)
                    self.assertTrue(node.module.startswith("figrow."))
                if isinstance(node, ast.Name):
                    self.assertNotIn(node.id, ["open", "input", "print", "id", "hash", "eval", "exec", "__import__"])

    def test_sizes_and_signs(self):
        for path in self.files():
            text = path.read_text(encoding="utf-8")
            lines = text.splitlines()
            self.assertLess(len(lines), 400)
            for line in lines:
                self.assertLessEqual(len(line), 120)
                self.assertTrue(all(" " <= sign <= "~" for sign in line))
            for node in ast.walk(ast.parse(text)):
                if isinstance(node, ast.FunctionDef):
                    self.assertLessEqual(node.end_lineno - node.lineno + 1, 40)


if __name__ == "__main__":
    unittest.main()
