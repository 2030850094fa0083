"""The interface as it is listed, the errors with their values, and the plainest rules of the package's form."""

import ast
import importlib
import inspect
import pathlib
import unittest
import warnings

from hingehall import errors

ROOT = pathlib.Path(__file__).resolve().parent.parent
PACKAGE = ROOT / "hingehall"

LISTED = {
    "steps": {"walk": "(hall, cells, steps)", "may": "(hall, cells)"},
    "ways": {
        "shortest": "(hall, cells, goal)", "gentlest": "(hall, cells, goal)", "reached": "(hall, cells)",
        "still": "(hall, cells)", "oneway": "(hall, cells)", "lost": "(hall, cells, goal)", "far": "(hall, cells)",
    },
}
ERRORS = {
    "BadHall": ("part", "number"), "BadCells": ("number",), "BadGoal": ("number",), "BadStep": ("number",),
    "BadPaper": ("number",), "BadCount": (), "TooMany": (), "Meets": (), "BadName": (), "NoPoint": (),
    "Halted": ("number", "done"), "BadText": ("row",),
}


class Interface(unittest.TestCase):
    def test_functions_are_defined_where_they_are_listed(self):
        for file, functions in LISTED.items():
            module = importlib.import_module(f"hingehall.{file}")
            for name, asked in functions.items():
                with self.subTest(file=file, name=name):
                    function = getattr(module, name)
                    self.assertEqual(function.__module__, f"hingehall.{file}")
                    self.assertEqual(str(inspect.signature(function)), asked)

    def test_each_error_is_a_refusal_and_under_no_other(self):
        self.assertEqual(errors.HallError.__bases__, (ValueError,))
        self.assertEqual(errors.HallError.__module__, "hingehall.errors")
        for name in ERRORS:
            with self.subTest(name=name):
                found = getattr(errors, name)
                self.assertTrue(issubclass(found, errors.HallError))
                self.assertEqual(found.__module__, "hingehall.errors")
                self.assertEqual([other for other in ERRORS if issubclass(found, getattr(errors, other))], [name])

    def test_each_error_has_its_values(self):
        for name, values in ERRORS.items():
            with self.subTest(name=name):
                error = getattr(errors, name)(*range(3, 3 + len(values)))
                self.assertEqual([getattr(error, value) for value in values], list(range(3, 3 + len(values))))
                with self.assertRaises(errors.HallError):
                    raise error


class Form(unittest.TestCase):
    def files(self):
        return sorted(PACKAGE.glob("*.py"))

    def test_the_package_holds_nothing_but_its_files(self):
        names = {path.name for path in PACKAGE.iterdir() if path.name != "__pycache__"}
        self.assertEqual(names, {path.name for path in self.files()})
        self.assertIn("__init__.py", names)

    def test_signs_and_sizes(self):
        for path in self.files():
            text = path.read_text(encoding="utf-8")
            lines = text.split("\n")
            with self.subTest(file=path.name):
                self.assertEqual([sign for sign in text if sign != "\n" and not " " <= sign <= "~"], [])
                self.assertLessEqual(len(lines), 399)
                self.assertEqual([line for line in lines if len(line) > 120], [])

    def test_functions_are_small(self):
        for path in self.files():
            for node in ast.walk(ast.parse(path.read_text(encoding="utf-8"))):
                if isinstance(node, ast.FunctionDef):
                    with self.subTest(file=path.name, function=node.name):
                        self.assertLessEqual(node.end_lineno - node.lineno + 1, 40)

    def test_imports_come_from_the_package_or_the_heap(self):
        for path in self.files():
            for node in ast.walk(ast.parse(path.read_text(encoding="utf-8"))):
                with self.subTest(file=path.name):
                    self.assertNotIsInstance(node, ast.Import)
                    if isinstance(node, ast.ImportFrom):
                        self.assertEqual(node.level, 0)
                        self.assertTrue(node.module == "heapq" or node.module.startswith("hingehall."))

    def test_python_warns_of_nothing(self):
        for path in self.files():
            with warnings.catch_warnings():
                warnings.simplefilter("error")
                compile(path.read_text(encoding="utf-8"), str(path), "exec")


if __name__ == "__main__":
    unittest.main()
