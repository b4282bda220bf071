"""The names, arguments and kinds of values of the interface, file by file."""

import importlib
import inspect
import unittest

FUNCTIONS = {
    "values": {"is_name": "value", "is_tag": "value", "is_label": "value", "is_task_string": "value"},
    "expressions": {"is_expression": "value", "evaluate": "expression values *task=''"},
    "syntax": {"statements": "body", "labelled": "function"},
    "texts": {"modules_text": "modules", "read_modules": "text"},
    "indexes": {"is_index": "value", "index_text": "index", "parse_index": "text"},
    "stories": {
        "is_datum": "value", "is_question": "value", "is_answer": "question value", "is_story": "epoch value",
        "same": "one other", "entries": "story",
    },
    "runs": {"is_start": "version value"},
    "codes": {"is_code": "value", "is_codes": "value", "points": "code", "waiting": "code"},
    "compiler": {"compiled": "version function", "compiled_all": "version"},
    "frames": {
        "is_frame": "codes value", "is_map": "code value", "term_value": "term values *task=''", "frame_of": "codes maps run",
        "is_right_frame": "codes maps run frame", "values_in": "code code_map point slots",
    },
    "terms": {"is_term": "value", "unknowns": "term"},
    "positions": {"position_of": "version function place", "variables_at": "version function place"},
    "judge": {"judge": "version function code code_map"},
    "ways": {"reads": "end", "gives": "end"},
    "liveness": {"live_slots": "code code_map", "needed_variables": "version function place"},
    "passes": {"is_pass": "value", "apply_pass": "one version codes maps function"},
    "pipelines": {"optimized": "version pipeline"},
    "tasks": {"child_name": "name index"},
    "records": {
        "record_text": "record", "read_record": "text", "checksum": "number text", "line_text": "number record", "good_records": "text",
        "good_prefix": "text",
    },
    "recovery": {
        "recover": "versions text", "short_text": "machine checkpoints=()", "handed_out": "machine versions text",
        "last_checkpoint": "versions text name *key *codes *maps",
    },
    "fits": {"misfit": "old new task"},
    "talk": {"rest": "version function label", "may_still": "version task", "newcomers": "version"},
    "moves": {
        "greatest": "population unread new names", "can_move": "population unread new names", "is_reason": "population unread new names name reason",
        "replace": "machine version names=None", "keepers": "population function label", "without_mark": "version function label",
    },
    "decision": {"settled": "version task", "values_of": "version kind", "decide": "old new function args=()"},
    "flows": {"needed_slots": "code block *entered=False", "flow": "code block slot", "is_flow": "code value", "least_frame": "codes frame"},
    "worlds": {
        "shows": "side story", "parting": "one other story", "first_parting": "one other choices *story=None *most=500",
        "next_value": "version kind value", "record_worlds": "versions text line", "is_record_worlds": "versions text line value",
        "left_worlds": "population unread new names name",
    },
    "debugger": {
        "history": "run", "shown": "version codes maps epoch frame", "what_if": "run index answer", "influences": "run index variable choices",
    },
    "builds": {"unit_key": "version function inlined=()"},
}
CLASSES = {
    "values.Kinds": {
        "__init__": "declared=()", "names": "", "variants": "kind", "is_kind": "value", "is_value": "kind value", "zero": "kind",
        "alike": "kind other *kinds=None", "__eq__": None, "__len__": None, "__contains__": None,
    },
    "versions.Version": {
        "__init__": "modules", "modules": "", "kinds": "", "names": "", "function": "name", "signature": "name",
        "effects": "name", "to_come": "name", "door": "name", "key": "name", "__eq__": None, "__len__": None,
        "__contains__": None, "__str__": None, "__repr__": None,
    },
    "runs.Run": {
        "__init__": "version name epoch start story", "story": "", "end": "", "waits": "", "differences": "", "come_to": "",
        "missed": "", "passed": "", "way": "index", "moment": "index", "frames": "index", "tree": "", "__eq__": None,
    },
    "execution.Execution": {
        "__init__": "version codes name epoch start story", "end": "", "waits": "", "differences": "", "come_to": "", "passed": "",
        "frame": "",
    },
    "terms.Terms": {
        "__init__": "version kinds conditions=()", "kind": "term", "is_defined": "term", "normal": "term", "same_terms": "one other",
        "exclude": "one other", "given": "condition",
    },
    "pipelines.Pipeline": {
        "__init__": "passes", "stages": "version function *codes=None *maps=None", "applied": "version function *codes=None *maps=None",
        "inlined": "version function", "__eq__": None, "__len__": None, "__contains__": None, "__add__": None, "__repr__": None,
    },
    "tasks.Task": {"__init__": "name version epoch start story end=None", "story": "", "end": "", "__eq__": None, "__repr__": None},
    "machine.Machine": {
        "__init__": "version more", "add_version": "version", "versions": "", "wait": "minutes=1", "launch": "name function operands",
        "names": "*living=True", "task": "name", "run": "name", "asks": "", "ready": "", "messages": "name key", "do": "name spot",
        "answer": "name index value", "rest": "most=100", "move": "names number", "perform": "operation version=None",
        "population": "", "unread": "", "records": "", "clone": "", "__eq__": None, "__len__": None, "__contains__": None,
    },
    "log.Disk": {
        "__init__": "text=''", "write": "text", "flush": "", "replace": "text", "text": "", "crash": "kept=0", "__eq__": None, "__len__": None,
    },
    "log.Keeper": {
        "__init__": "version", "machine": "", "disk": "", "perform": "operation version=None", "flush": "", "handed_out": "",
        "checkpoint": "name key frame", "shorten": "*key=None *codes=None *maps=None", "crash": "kept=0",
    },
    "builds.Build": {"__init__": "version pipeline", "codes": "", "maps": "", "rebuilt": "version", "__eq__": None},
}
CLASS_METHODS = {
    "versions.Version.read": "text", "execution.Execution.from_frame": "version codes name epoch frame story",
    "pipelines.Pipeline.standard": "labels", "machine.Machine.of_records": "versions records",
    "machine.Machine.of_state": "versions current now tasks unread", "log.Keeper.recovered": "versions disk",
}
PROPERTIES = {"runs.Run": ("state", "end_moment"), "machine.Machine": ("current", "now"), "log.Disk": ("flushed",)}


def described(function, skipped=0):
    """The parameters of a function as a string."""
    words = []
    for parameter in list(inspect.signature(function).parameters.values())[skipped:]:
        star = "*" if parameter.kind == inspect.Parameter.KEYWORD_ONLY else ""
        default = "" if parameter.default is inspect.Parameter.empty else f"={parameter.default!r}"
        words.append(star + parameter.name + default)
    return " ".join(words)


class InterfaceTest(unittest.TestCase):
    def test_functions(self):
        for file, functions in FUNCTIONS.items():
            module = importlib.import_module(f"heldover.{file}")
            for name, parameters in functions.items():
                function = getattr(module, name)
                self.assertTrue(inspect.isfunction(function))
                self.assertEqual(function.__module__, f"heldover.{file}")
                self.assertEqual(described(function), parameters, name)

    def test_classes(self):
        for path, methods in CLASSES.items():
            file, name = path.split(".")
            one = getattr(importlib.import_module(f"heldover.{file}"), name)
            self.assertEqual(one.__module__, f"heldover.{file}")
            for method, parameters in methods.items():
                self.assertIn(method, vars(one), f"{path}.{method}")
                if parameters is not None:
                    self.assertEqual(described(vars(one)[method], 1), parameters, f"{path}.{method}")

    def test_class_methods_and_properties(self):
        for path, parameters in CLASS_METHODS.items():
            file, name, method = path.split(".")
            one = getattr(importlib.import_module(f"heldover.{file}"), name)
            self.assertIsInstance(vars(one)[method], classmethod)
            self.assertEqual(described(getattr(one, method)), parameters)
        for path, names in PROPERTIES.items():
            file, name = path.split(".")
            one = getattr(importlib.import_module(f"heldover.{file}"), name)
            self.assertTrue(all(isinstance(vars(one)[each], property) for each in names))

    def test_values_of_classes(self):
        pipelines, machine = importlib.import_module("heldover.pipelines"), importlib.import_module("heldover.machine")
        self.assertIsInstance(vars(pipelines.Pipeline)["STANDARD"], tuple)
        self.assertEqual(vars(machine.Machine)["MAX_VERSIONS"], 5)
        self.assertIsInstance(importlib.import_module("heldover.passes").PASSES, tuple)
        self.assertTrue(inspect.isgeneratorfunction(pipelines.Pipeline.stages))

    def test_generators(self):
        for file, name in (("syntax", "statements"), ("stories", "entries")):
            module = importlib.import_module(f"heldover.{file}")
            self.assertTrue(inspect.isgeneratorfunction(getattr(module, name)))
