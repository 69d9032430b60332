"""The interface's names and arguments, and the forms that the package's files keep to."""

import ast
import importlib
import inspect
import os
import unittest

ROOT = os.path.dirname(os.path.dirname(os.path.abspath(__file__)))
PACKAGE = os.path.join(ROOT, "thinlog")

INTERFACE = {
    "filters": {"is_filter": ["value"], "is_pipeline": ["value"], "is_log": ["value"]},
    "thinning": {
        "decisions": ["pipeline", "log"],
        "keep": ["pipeline", "log"],
        "stages": ["pipeline", "log"],
        "influential": ["pipeline", "log"],
    },
    "compare": {
        "first_difference": ["first", "second"],
        "equal": ["first", "second"],
        "counterexample": ["first", "second"],
        "contains": ["first", "second"],
    },
    "simplify": {
        "redundant_filters": ["pipeline"],
        "commute": ["one", "other"],
        "shortest_part": ["pipeline"],
        "single_filter": ["pipeline"],
        "normal_form": ["pipeline"],
    },
    "bounds": {
        "smallest_gap": ["pipeline"],
        "largest_gap": ["pipeline", "limit"],
        "most_in_window": ["pipeline", "width"],
    },
    "regular": {
        "rhythm": ["pipeline", "period"],
        "kept_before": ["pipeline", "period", "number"],
        "kept_index": ["pipeline", "period", "rank"],
    },
    "unknown": {
        "possible_last": ["pipeline", "name", "log", "kept"],
        "possible_values": ["pipeline", "index", "log", "kept"],
        "fewest_events": ["pipeline", "times"],
        "count_sources": ["pipeline", "times", "last"],
        "source_events": ["pipeline", "times", "last"],
    },
}


class InterfaceTest(unittest.TestCase):

    def test_functions(self):
        for file, functions in INTERFACE.items():
            module = importlib.import_module("thinlog." + file)
            for name, parameters in functions.items():
                function = getattr(module, name)
                self.assertTrue(inspect.isfunction(function))
                self.assertEqual(function.__module__, "thinlog." + file)
                self.assertEqual(list(inspect.signature(function).parameters), parameters)


class FilesTest(unittest.TestCase):

    def setUp(self):
        self.texts = {}
        for name in sorted(os.listdir(PACKAGE)):
            if name != "__pycache__":
                self.assertTrue(name.endswith(".py"), name)
                with open(os.path.join(PACKAGE, name), "rb") as file:
                    self.texts[name] = file.read()

    def test_characters_and_lines(self):
        for name, text in self.texts.items():
            self.assertTrue(all(byte == 10 or 32 <= byte <= 126 for byte in text), name)
            lines = text.split(b"\n")
            self.assertLess(len(lines), 400, name)
            self.assertLessEqual(max(len(line) for line in lines), 120, name)

    def test_functions_are_short(self):
        for name, text in self.texts.items():
            for node in ast.walk(ast.parse(text)):
                if isinstance(node, ast.FunctionDef):
                    self.assertLessEqual(node.end_lineno - node.lineno + 1, 40, node.name)

    def test_imports(self):
        for name, text in self.texts.items():
            for node in ast.walk(ast.parse(text)):
                self.assertNotIsInstance(node, ast.Import, name)
                if isinstance(node, ast.ImportFrom):
                    self.assertEqual(node.level, 0, name)
                    if node.module == "itertools":
                        self.assertEqual([one.name for one in node.names], ["combinations"], name)
                    else:
                        self.assertTrue(node.module.startswith("thinlog."), name)


if __name__ == "__main__":
    unittest.main()
