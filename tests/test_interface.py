"""[2] and the interface: names, arguments and files; the sizes and characters that LANGUAGE.md allows."""

import ast
import importlib
import inspect
import pathlib
import unittest

PACKAGE = pathlib.Path(__file__).resolve().parent.parent / "firstfault"
FUNCTIONS = {
    "kinds": {"is_integer": "(thing)", "is_number": "(thing)", "is_name": "(thing)", "is_state": "(items, thing)"},
    "conditions": {
        "is_count": "(thing)", "is_condition": "(thing)", "parts_of": "(expression)", "lets_count": "(items, thing)",
        "lets_condition": "(items, thing)",
    },
    "steps": {"is_step": "(thing)", "is_steps": "(thing)"},
    "programchecker": {"lets_program": "(thing)"},
    "keys": {"all_keys": "(program)", "step_at": "(program, key)"},
    "changes": {
        "with_step": "(program, key, step)", "without_step": "(program, key)",
        "with_step_ahead": "(program, place, step)",
    },
    "values": {
        "value_in": "(items, state, count)", "holds_in": "(items, state, condition)",
        "put_in": "(items, state, name, count)",
    },
    "programtexts": {
        "expression_text": "(expression)", "step_text": "(step)", "key_text": "(key)", "program_text": "(program)",
    },
    "programreadings": {
        "expression_read": "(text, *, line=0, field=0)", "step_read": "(text, *, line=0, field=0)",
        "key_read": "(text, *, line=0, field=0)", "program_read": "(text, *, line=0)",
    },
    "running": {
        "states_of": "(items)", "run": "(program, state)", "complained_by": "(program, state)",
        "trail": "(program, state)",
        "arrivals": "(program, key)", "complaints_by": "(program, key)", "unreached_keys": "(program)",
    },
    "comparing": {
        "are_alike": "(one, other)", "are_equal": "(one, other)", "parting_state": "(one, other, *, ends=False)",
        "words_told": "(program)", "states_telling": "(program, word)",
        "before": "(items, step, condition, *, calls=())", "behind": "(items, step, condition, *, calls=())",
    },
    "contexts": {
        "may_put_for": "(items, calls, one, other)", "context_program": "(items, calls, steps, context)",
        "context_paper": "(items, calls, one, other)",
    },
    "contextchecker": {"lets_context": "(items, calls, one, other, thing)"},
    "alikepapers": {"alike_paper": "(one, other)"},
    "alikechecker": {"lets_alike": "(one, other, thing)"},
    "dropping": {
        "checks_of": "(program)", "dropped": "(program, *keys)", "may_drop": "(program, *keys)",
        "fewest_checks": "(program)",
    },
    "coming": {
        "may_come": "(program, key, place)", "come": "(program, key, place)", "places_for": "(program, key)",
    },
    "comepapers": {"come_paper": "(program, key, place)"},
    "comechecker": {"lets_come": "(program, key, place, thing)"},
    "droppapers": {"drop_paper": "(program)"},
    "dropchecker": {"lets_drop": "(program, thing)"},
    "gobehind": {"may_go_behind": "(program, key)", "gone_behind": "(program, key)"},
    "behindpapers": {"behind_paper": "(program, key)"},
    "behindchecker": {"lets_behind": "(program, key, thing)"},
    "fronting": {"may_front": "(program)", "fronted": "(program)", "fewest_at_all": "(program)"},
    "frontpapers": {"front_paper": "(program)"},
    "frontchecker": {"lets_front": "(program, thing)"},
    "lists": {
        "first_failing": "(items, checks, state)", "regions": "(items, checks)", "words_of_list": "(items, checks)",
        "idle_checks": "(items, checks)", "least_list": "(items, checks)",
    },
    "freedoms": {"freedom": "(items, checks, k)", "may_replace": "(items, checks, k, condition)"},
    "bounds": {
        "fewest_bounds": "(items, fail, hold)", "bar_state": "(items, fail, hold)", "bounds_condition": "(bounds)",
        "fewest_plain": "(items, checks, k)",
    },
    "keeping": {
        "joined": "(checks)", "one_for_each_word": "(items, checks)", "is_enough": "(items, checks, kept)",
        "fewest_kept": "(items, checks)",
    },
    "keeppapers": {"keep_paper": "(items, checks)"},
    "keepchecker": {"lets_keep": "(items, checks, thing)"},
    "listpapers": {"list_paper": "(items, checks)"},
    "listchecker": {"lets_list": "(items, checks, thing)"},
    "orders": {
        "must_ahead": "(items, checks)", "may_order": "(items, checks, order)", "orders": "(items, checks)",
        "work": "(items, checks)", "least_work": "(items, checks)",
    },
    "replaying": {"is_log": "(thing)", "replayed": "(log)"},
    "eventtexts": {"event_line": "(event)", "log_lines": "(log)"},
    "eventreadings": {"read_event": "(text)", "read_log": "(lines)"},
}
CLASSES = {
    ("programclasses", "Program"): {
        "__init__": "(self, items, steps, calls=())", "__getitem__": "(self, key)", "__contains__": "(self, key)",
        "__len__": "(self)", "__iter__": "(self)", "__eq__": "(self, other)", "__str__": "(self)",
        "turned": "(self, key, step)", "less": "(self, key)", "ahead": "(self, place, step)",
    },
    ("terms", "Count"): {
        "__init__": "(self, expression)", "__len__": "(self)", "__eq__": "(self, other)", "__str__": "(self)",
        "__call__": "(self, items, state)", "__add__": "(self, other)", "__sub__": "(self, other)",
        "__mul__": "(self, other)", "__radd__": "(self, other)", "__rsub__": "(self, other)", "__rmul__": "(self, other)",
        "parts": "(self)", "less": "(self, other)", "equals": "(self, other)", "said": "(self)", "set_to": "(self, name)",
        "times": "(self, *steps)",
    },
    ("terms", "Rule"): {
        "__init__": "(self, expression)", "__len__": "(self)", "__eq__": "(self, other)", "__str__": "(self)",
        "__call__": "(self, items, state)", "__and__": "(self, other)", "__or__": "(self, other)", "__invert__": "(self)",
        "parts": "(self)", "check": "(self, word)", "choose": "(self, steps, others)",
    },
    ("services", "Service"): {
        "__init__": "(self, program)", "__getitem__": "(self, state)", "__contains__": "(self, key)", "__len__": "(self)",
        "__eq__": "(self, other)", "__str__": "(self)", "__call__": "(self, event)", "put": "(self, place, step)",
        "take": "(self, key)", "turn": "(self, key, step)", "come": "(self, key, place)", "behind": "(self, key)",
        "drop": "(self, *keys)", "lean": "(self)", "front": "(self)", "add_call": "(self, name, steps)",
        "go": "(self, event)", "tried": "(self, *events)", "undo": "(self)", "do_all": "(self, *events, keep=False)",
        "counts": "(self)", "table": "(self)", "barred": "(self, event)", "parting": "(self, event)", "idle": "(self)",
        "fewest": "(self)", "words": "(self)", "can_front": "(self)", "log": "(self)",
    },
    ("desk", "Desk"): {"__init__": "(self)", "say": "(self, row)", "counts": "(self)"},
}
PROPERTIES = {
    "Program": ("item_rows", "call_rows", "step_rows", "form"), "Count": ("form",), "Rule": ("form",),
    "Service": ("first", "program", "promise", "checks"), "Desk": (),
}
# Those that are called off the class, by their kinds.
CLASS_METHODS = {"Program": {"parsed": "(cls, text)"}}
STATIC_METHODS = {"Count": {"item": "(name)"}, "Rule": {"among": "(states)"}}


class InterfaceTest(unittest.TestCase):
    def test_functions_stand_in_their_files_with_their_arguments(self):
        for name, functions in FUNCTIONS.items():
            module = importlib.import_module("firstfault." + name)
            for function, arguments in functions.items():
                found = getattr(module, function)
                self.assertEqual(found.__module__, "firstfault." + name)
                self.assertEqual(str(inspect.signature(found)), arguments, function)

    def test_methods_stand_in_their_classes_with_their_arguments(self):
        for (name, title), methods in CLASSES.items():
            made = getattr(importlib.import_module("firstfault." + name), title)
            self.assertEqual([made.__module__, made.__bases__], ["firstfault." + name, (object,)])
            for method, arguments in methods.items():
                self.assertEqual(str(inspect.signature(vars(made)[method])), arguments, method)
            for title_of_property in PROPERTIES[title]:
                found = vars(made)[title_of_property]
                self.assertEqual([found.__class__, found.fset, found.fdel], [property, None, None])
            for kind, rows in ((classmethod, CLASS_METHODS), (staticmethod, STATIC_METHODS)):
                for method, arguments in rows.get(title, {}).items():
                    self.assertIs(vars(made)[method].__class__, kind)
                    self.assertEqual(str(inspect.signature(vars(made)[method].__func__)), arguments)


class LanguageTest(unittest.TestCase):
    def setUp(self):
        self.files = sorted(PACKAGE.rglob("*.py"))
        self.assertGreater(len(self.files), 0)

    def test_sizes_and_characters(self):
        for file in self.files:
            text = file.read_text(encoding="utf-8")
            self.assertLess(text.count("\n"), 400, file)
            self.assertLessEqual({ord(sign) for sign in text}, {10, *range(32, 127)}, file)
            for line in text.split("\n"):
                self.assertLessEqual(len(line), 120, file)

    def test_functions_are_short(self):
        for file in self.files:
            for node in ast.walk(ast.parse(file.read_text(encoding="utf-8"))):
                if isinstance(node, ast.FunctionDef):
                    self.assertLessEqual(node.end_lineno - node.lineno + 1, 40, (file, node.name))

    def test_no_generator_expressions(self):
        # Where a class compares, what goes over values takes a list.
        for file in self.files:
            for node in ast.walk(ast.parse(file.read_text(encoding="utf-8"))):
                self.assertNotIsInstance(node, ast.GeneratorExp, file)

    def test_imports_come_from_the_package_alone(self):
        for file in self.files:
            for node in ast.walk(ast.parse(file.read_text(encoding="utf-8"))):
                self.assertNotIsInstance(node, ast.Import, file)
                if isinstance(node, ast.ImportFrom):
                    self.assertTrue(node.module.startswith("firstfault."), (file, node.module))


if __name__ == "__main__":
    unittest.main()
