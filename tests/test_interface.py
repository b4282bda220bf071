"""The names, arguments and kinds of values of the interface, file by file."""

import importlib
import inspect
import unittest

FUNCTIONS = {
    "values": {"is_name": "value", "is_tag": "value", "is_label": "value", "is_task_string": "value"},
    "expressions": {"is_expression": "value", "evaluate": "expression values *task=''"},
    "syntax": {"statements": "body", "labelled": "function"},
    "texts": {"modules_text": "modules", "read_modules": "text"},
    "indexes": {"is_index": "value", "index_text": "index", "parse_index": "text"},
    "stories": {
        "is_datum": "value", "is_question": "value", "is_answer": "question value", "is_story": "epoch value",
        "same": "one other", "entries": "story",
    },
    "runs": {"is_start": "version value"},
    "codes": {"is_code": "value", "is_codes": "value", "points": "code", "waiting": "code"},
    "compiler": {"compiled": "version function", "compiled_all": "version"},
}
CLASSES = {
    "values.Kinds": {
        "__init__": "declared=()", "names": "", "variants": "kind", "is_kind": "value", "is_value": "kind value", "zero": "kind",
        "alike": "kind other *kinds=None", "__eq__": None, "__len__": None, "__contains__": None,
    },
    "versions.Version": {
        "__init__": "modules", "modules": "", "kinds": "", "names": "", "function": "name", "signature": "name",
        "effects": "name", "to_come": "name", "door": "name", "key": "name", "__eq__": None, "__len__": None,
        "__contains__": None, "__str__": None, "__repr__": None,
    },
    "runs.Run": {
        "__init__": "version name epoch start story", "story": "", "end": "", "waits": "", "differences": "", "come_to": "",
        "missed": "", "passed": "", "way": "index", "moment": "index", "frames": "index", "tree": "", "__eq__": None,
    },
}


def described(function, skipped=0):
    """The parameters of a function as a string."""
    words = []
    for parameter in list(inspect.signature(function).parameters.values())[skipped:]:
        star = "*" if parameter.kind == inspect.Parameter.KEYWORD_ONLY else ""
        default = "" if parameter.default is inspect.Parameter.empty else f"={parameter.default!r}"
        words.append(star + parameter.name + default)
    return " ".join(words)


class InterfaceTest(unittest.TestCase):
    def test_functions(self):
        for file, functions in FUNCTIONS.items():
            module = importlib.import_module(f"heldover.{file}")
            for name, parameters in functions.items():
                function = getattr(module, name)
                self.assertTrue(inspect.isfunction(function))
                self.assertEqual(function.__module__, f"heldover.{file}")
                self.assertEqual(described(function), parameters, name)

    def test_classes(self):
        for path, methods in CLASSES.items():
            file, name = path.split(".")
            one = getattr(importlib.import_module(f"heldover.{file}"), name)
            self.assertEqual(one.__module__, f"heldover.{file}")
            for method, parameters in methods.items():
                self.assertIn(method, vars(one), f"{path}.{method}")
                if parameters is not None:
                    self.assertEqual(described(vars(one)[method], 1), parameters, f"{path}.{method}")

    def test_class_methods_and_properties(self):
        runs, versions = importlib.import_module("heldover.runs"), importlib.import_module("heldover.versions")
        self.assertIsInstance(vars(versions.Version)["read"], classmethod)
        self.assertEqual(described(versions.Version.read), "text")
        for name in ("state", "end_moment"):
            self.assertIsInstance(vars(runs.Run)[name], property)

    def test_generators(self):
        for file, name in (("syntax", "statements"), ("stories", "entries")):
            module = importlib.import_module(f"heldover.{file}")
            self.assertTrue(inspect.isgeneratorfunction(getattr(module, name)))
