"""[2] and the interface: names, arguments and files; the sizes and characters that LANGUAGE.md allows."""

import ast
import importlib
import inspect
import pathlib
import unittest

PACKAGE = pathlib.Path(__file__).resolve().parent.parent / "firstfault"
FUNCTIONS = {
    "kinds": {"is_integer": ["thing"], "is_number": ["thing"], "is_name": ["thing"], "is_state": ["items", "thing"]},
    "conditions": {
        "is_count": ["thing"], "is_condition": ["thing"], "parts_of": ["expression"], "lets_count": ["items", "thing"],
        "lets_condition": ["items", "thing"],
    },
    "steps": {"is_step": ["thing"], "is_steps": ["thing"]},
    "programchecker": {"lets_program": ["thing"]},
    "keys": {"all_keys": ["program"], "step_at": ["program", "key"]},
    "changes": {
        "with_step": ["program", "key", "step"], "without_step": ["program", "key"],
        "with_step_ahead": ["program", "place", "step"],
    },
}


class InterfaceTest(unittest.TestCase):
    def test_functions_stand_in_their_files_with_their_arguments(self):
        for name, functions in FUNCTIONS.items():
            module = importlib.import_module("firstfault." + name)
            for function, arguments in functions.items():
                found = getattr(module, function)
                self.assertEqual(found.__module__, "firstfault." + name)
                parameters = inspect.signature(found).parameters.values()
                self.assertEqual([parameter.name for parameter in parameters], arguments, function)
                for parameter in parameters:
                    self.assertEqual(parameter.kind, parameter.POSITIONAL_OR_KEYWORD)
                    self.assertIs(parameter.default, parameter.empty)


class LanguageTest(unittest.TestCase):
    def setUp(self):
        self.files = sorted(PACKAGE.rglob("*.py"))
        self.assertGreater(len(self.files), 0)

    def test_sizes_and_characters(self):
        for file in self.files:
            text = file.read_text(encoding="utf-8")
            self.assertLess(text.count("\n"), 400, file)
            self.assertLessEqual({ord(sign) for sign in text}, {10, *range(32, 127)}, file)
            for line in text.split("\n"):
                self.assertLessEqual(len(line), 120, file)

    def test_functions_are_short(self):
        for file in self.files:
            for node in ast.walk(ast.parse(file.read_text(encoding="utf-8"))):
                if isinstance(node, ast.FunctionDef):
                    self.assertLessEqual(node.end_lineno - node.lineno + 1, 40, (file, node.name))

    def test_imports_come_from_the_package_alone(self):
        for file in self.files:
            for node in ast.walk(ast.parse(file.read_text(encoding="utf-8"))):
                self.assertNotIsInstance(node, ast.Import, file)
                if isinstance(node, ast.ImportFrom):
                    self.assertTrue(node.module.startswith("firstfault."), (file, node.module))


if __name__ == "__main__":
    unittest.main()
