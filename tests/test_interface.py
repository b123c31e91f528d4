"""The names and arguments of the interface, and the form of the package."""

import ast
import importlib
import inspect
import pathlib
import unittest

from interface import FUNCTIONS, METHODS

PACKAGE = pathlib.Path(__file__).resolve().parent.parent / "walkhands"


class TestInterface(unittest.TestCase):
    def test_each_function_is_defined_in_its_file_with_its_arguments(self):
        for module, functions in FUNCTIONS.items():
            for name, arguments in functions.items():
                function = getattr(importlib.import_module(module), name)
                with self.subTest(module=module, name=name):
                    self.assertTrue(inspect.isfunction(function))
                    self.assertEqual(function.__module__, module)
                    self.assertEqual(list(inspect.signature(function).parameters), arguments)

    def test_the_bench_is_defined_in_its_file_with_its_methods(self):
        module = importlib.import_module("walkhands.bench")
        self.assertTrue(inspect.isclass(module.Bench))
        self.assertEqual(module.Bench.__module__, "walkhands.bench")
        self.assertEqual(list(inspect.signature(module.Bench).parameters), ["board"])
        for name, arguments in METHODS.items():
            with self.subTest(name=name):
                self.assertIn(name, vars(module.Bench))
                parameters = inspect.signature(vars(module.Bench)[name]).parameters
                self.assertEqual(list(parameters), ["self"] + arguments)

    def test_arguments_can_be_given_by_their_names(self):
        bench = importlib.import_module("walkhands.bench").Bench(board=((1, 2), (3, 4)))
        bench.put(row=1, column=2, amount=5)
        bench.insert_row(at=1, amounts=(6, 7))
        bench.insert_column(at=3, amounts=(8, 9, 0))
        bench.remove_row(at=3)
        bench.remove_column(at=1)
        self.assertEqual(bench.board(), ((7, 8), (5, 9)))
        self.assertEqual(bench.shape(row=1, column=2), (15,))
        self.assertEqual(bench.most(count=1, row=2, column=2), 24)


class TestForm(unittest.TestCase):
    def test_the_folder_holds_python_files_only(self):
        held = [path for path in PACKAGE.iterdir() if path.name != "__pycache__"]
        self.assertIn("__init__.py", [path.name for path in held])
        self.assertEqual([path.name for path in held if path.suffix != ".py"], [])

    def test_files_lines_and_functions_are_short_and_plain(self):
        for path in PACKAGE.glob("*.py"):
            text = path.read_text(encoding="utf-8")
            with self.subTest(path=path.name):
                self.assertTrue(all(c == "\n" or " " <= c <= "~" for c in text))
                self.assertLessEqual(len(text.splitlines()), 399)
                self.assertLessEqual(max(map(len, text.splitlines())), 120)
                for node in ast.walk(ast.parse(text)):
                    if isinstance(node, ast.FunctionDef):
                        self.assertLessEqual(node.end_lineno - node.lineno + 1, 40)

    def test_files_import_from_the_package_and_the_allowed_library_only(self):
        allowed = ("heapq", "math", "itertools", "collections", "__future__")
        for path in PACKAGE.glob("*.py"):
            for node in ast.walk(ast.parse(path.read_text(encoding="utf-8"))):
                with self.subTest(path=path.name):
                    self.assertNotIsInstance(node, ast.Import)
                    if isinstance(node, ast.ImportFrom):
                        self.assertEqual(node.level, 0)
                        self.assertTrue(node.module.startswith("walkhands.") or node.module in allowed)


if __name__ == "__main__":
    unittest.main()
