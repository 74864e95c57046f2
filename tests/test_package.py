"""The interface as the document lists it, and the plain ones of the rules of LANGUAGE.md."""

import ast
import importlib
import inspect
import pathlib
import unittest

FOLDER = pathlib.Path(__file__).resolve().parent.parent / "rimprints"
FILES = sorted(FOLDER.glob("*.py"))
LIBRARY = {"math": {"gcd", "lcm"}}
INTERFACE = {
    "presses": {"press_of": ["thing"], "parts_in": ["press"], "reckoned": ["press"]},
    "texts": {"press_text": ["press"], "read_press": ["text"]},
    "marks": {"mark_at": ["press", "place"], "piece": ["press", "first", "many"]},
    # The document's `round` is a builtin's name, which the rules bar; callers hand it by its place.
    "rounds": {"round_of": ["press"], "plain": ["press"], "press_by": ["ahead", "lap"]},
    "counts": {"how_many": ["press", "letter", "place"], "nth": ["press", "letter", "number"]},
    "apart": {
        "first_apart": ["one", "other"], "many_apart": ["one", "other", "place"], "nth_apart": ["one", "other", "number"],
        "turning_of": ["one", "other"], "order_matters": ["one", "other"],
    },
    "one": {
        "lengths_for": ["seen", "most"], "rim_for": ["seen", "length"], "spoilt_for": ["seen", "length"],
        "least_spoilt": ["seen", "most"],
    },
    "two": {"two_for": ["seen", "lower", "upper"], "least_two": ["seen", "most"], "beneath": ["seen", "rim"]},
    "several": {"known_from": ["pieces", "length"]},
    "desk": {"Desk": []},
}


class Interface(unittest.TestCase):
    def test_each_function_is_defined_in_its_file(self):
        for file, functions in INTERFACE.items():
            module = importlib.import_module("rimprints." + file)
            for name, arguments in functions.items():
                function = getattr(module, name)
                self.assertEqual(function.__module__, "rimprints." + file)
                self.assertEqual(list(inspect.signature(function).parameters), arguments)

    def test_the_desk_has_its_method_itself(self):
        say = vars(importlib.import_module("rimprints.desk").Desk)["say"]
        self.assertTrue(inspect.isfunction(say))
        self.assertEqual(list(inspect.signature(say).parameters), ["self", "row"])


class Rules(unittest.TestCase):
    def test_the_folder_holds_the_package_alone(self):
        inside = [path for path in FOLDER.iterdir() if path.name != "__pycache__"]
        self.assertEqual(sorted(inside), FILES)
        self.assertIn(FOLDER / "__init__.py", FILES)

    def test_sizes_and_signs(self):
        for path in FILES:
            text = path.read_text(encoding="utf-8")
            lines = text.split("\n")
            self.assertLess(len(lines), 400, path)
            self.assertLessEqual(max(map(len, lines)), 120, path)
            self.assertTrue(all(sign == "\n" or " " <= sign <= "~" for sign in text), path)
            for node in ast.walk(ast.parse(text)):
                if isinstance(node, ast.FunctionDef):
                    self.assertLessEqual(node.end_lineno - node.lineno + 1, 40, node.name)
                if isinstance(node, ast.Constant) and isinstance(node.value, str):
                    self.assertNotIn("%", node.value, path)

    def test_imports(self):
        for path in FILES:
            for node in ast.walk(ast.parse(path.read_text(encoding="utf-8"))):
                self.assertNotIsInstance(node, ast.Import, path)
                if isinstance(node, ast.ImportFrom):
                    self.import_is_allowed(node)

    def import_is_allowed(self, node):
        self.assertEqual(node.level, 0)
        names = {alias.name for alias in node.names}
        if node.module in LIBRARY:
            self.assertLessEqual(names, LIBRARY[node.module])
            return
        module = importlib.import_module(node.module)
        self.assertTrue(node.module.startswith("rimprints."))
        for name in names:
            self.assertEqual(getattr(module, name).__module__, node.module)
