"""heldover.errors: the classes, their fields and their base classes."""

import inspect
import unittest

from heldover import errors

GROUPS = {
    "HeldoverError": (ValueError, {
        "InvalidKinds": "problem name", "InvalidVersion": "problem name", "InvalidText": "line", "InvalidIndex": "value",
        "InvalidTask": "value", "InvalidEpoch": "value", "InvalidStart": "value", "InvalidStory": "value",
        "InvalidCode": "value", "InvalidCodes": "name", "InvalidMap": "value", "InvalidFrame": "value",
        "InvalidTerm": "value", "InvalidPass": "value", "InvalidMinutes": "value", "InvalidName": "value",
        "InvalidArguments": "name", "InvalidAnswer": "value", "InvalidOperation": "value", "InvalidRecord": "position",
        "InvalidLog": "line", "InvalidCount": "value", "InvalidSide": "value", "InvalidChoices": "name",
        "NotFinite": "name",
    }),
    "MissingError": (LookupError, {
        "UnknownName": "name", "UnknownStep": "value", "NotFound": "value", "NoPoint": "value", "NoSlot": "slot",
    }),
    "StateError": (RuntimeError, {
        "Stuck": "name block", "NoFrame": "", "Taken": "name", "NotReady": "index", "NotOpen": "index",
        "Conflict": "index value", "NotClosed": "name",
    }),
    "LimitError": (ArithmeticError, {"TooMany": "what"}),
}


class ErrorsTest(unittest.TestCase):
    def test_base_classes(self):
        for base, (python, names) in GROUPS.items():
            self.assertEqual(getattr(errors, base).__bases__, (python,))
            for name in names:
                self.assertEqual(getattr(errors, name).__bases__, (getattr(errors, base),), name)

    def test_there_are_no_others(self):
        listed = {name for base, (_, names) in GROUPS.items() for name in (base, *names)}
        found = {name for name, one in vars(errors).items() if inspect.isclass(one)}
        self.assertEqual(found, listed)

    def test_fields_are_parameters_by_position_and_by_name(self):
        for _, names in GROUPS.values():
            for name, fields in names.items():
                words = fields.split()
                self.assertEqual(list(inspect.signature(getattr(errors, name)).parameters), words, name)
                values = [object() for _ in words]
                by_position = getattr(errors, name)(*values)
                by_name = getattr(errors, name)(**dict(zip(words, values)))
                for word, value in zip(words, values):
                    self.assertIs(getattr(by_position, word), value)
                    self.assertIs(getattr(by_name, word), value)

    def test_a_value_that_cannot_be_shown(self):
        deep = ()
        for _ in range(5000):
            deep = (deep,)
        error = errors.InvalidIndex(deep)
        self.assertIs(error.value, deep)
        self.assertTrue(str(error))

    def test_they_are_caught_by_their_bases(self):
        with self.assertRaises(ValueError):
            raise errors.InvalidText(3)
        with self.assertRaises(LookupError):
            raise errors.UnknownName("x")
        with self.assertRaises(RuntimeError):
            raise errors.NoFrame()
        with self.assertRaises(ArithmeticError):
            raise errors.TooMany("stories")
