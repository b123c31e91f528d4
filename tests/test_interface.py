"""The names and arguments of the interface, and the form of the package."""

import ast
import importlib
import inspect
import pathlib
import unittest

PACKAGE = pathlib.Path(__file__).resolve().parent.parent / "walkhands"

FUNCTIONS = {
    "walkhands.shapes": {
        "is_shape": ["row"],
        "is_strip": ["upper", "lower"],
        "grow": ["rho", "mu", "nu", "count"],
        "shrink": ["mu", "nu", "shape"],
        "is_chain": ["shapes"],
        "toggled": ["chain", "index"],
    },
    "walkhands.corners": {
        "shapes_of": ["board"],
        "border_of": ["board"],
        "board_of": ["right", "bottom"],
    },
}


class TestInterface(unittest.TestCase):
    def test_each_function_is_defined_in_its_file_with_its_arguments(self):
        for module, functions in FUNCTIONS.items():
            for name, arguments in functions.items():
                function = getattr(importlib.import_module(module), name)
                with self.subTest(module=module, name=name):
                    self.assertTrue(inspect.isfunction(function))
                    self.assertEqual(function.__module__, module)
                    self.assertEqual(list(inspect.signature(function).parameters), arguments)


class TestForm(unittest.TestCase):
    def test_the_folder_holds_python_files_only(self):
        held = [path for path in PACKAGE.iterdir() if path.name != "__pycache__"]
        self.assertIn("__init__.py", [path.name for path in held])
        self.assertEqual([path.name for path in held if path.suffix != ".py"], [])

    def test_files_lines_and_functions_are_short_and_plain(self):
        for path in PACKAGE.glob("*.py"):
            text = path.read_text(encoding="utf-8")
            with self.subTest(path=path.name):
                self.assertTrue(all(c == "\n" or " " <= c <= "~" for c in text))
                self.assertLessEqual(len(text.splitlines()), 399)
                self.assertLessEqual(max(map(len, text.splitlines())), 120)
                for node in ast.walk(ast.parse(text)):
                    if isinstance(node, ast.FunctionDef):
                        self.assertLessEqual(node.end_lineno - node.lineno + 1, 40)

    def test_files_import_from_the_package_and_the_allowed_library_only(self):
        allowed = ("heapq", "math", "itertools", "collections", "__future__")
        for path in PACKAGE.glob("*.py"):
            for node in ast.walk(ast.parse(path.read_text(encoding="utf-8"))):
                with self.subTest(path=path.name):
                    self.assertNotIsInstance(node, ast.Import)
                    if isinstance(node, ast.ImportFrom):
                        self.assertEqual(node.level, 0)
                        self.assertTrue(node.module.startswith("walkhands.") or node.module in allowed)


if __name__ == "__main__":
    unittest.main()
