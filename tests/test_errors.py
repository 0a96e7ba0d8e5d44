import unittest

from heldby import errors
from tests.samples import any_values

FIELDS = {
    ValueError: {
        "InvalidProgram": "place", "DuplicateName": "value", "WrongKind": "value", "WrongCount": "value",
        "Endless": "value", "InvalidBundle": "index", "InvalidList": "value", "InvalidWeights": "value",
        "InvalidNumber": "value", "InvalidWorld": "index", "OtherProgram": None, "NotJoined": None,
        "InvalidName": "value", "InUse": "value", "GivenAway": "value", "NotSame": "value", "Unreadable": "line",
        "CommandError": "value",
    },
    LookupError: {
        "UnknownName": "value", "UnknownPoint": "value", "UnknownUnit": "value", "UnknownMoment": "value",
        "InvalidIndex": "value", "OutOfRange": "value", "NotHeld": "value", "NothingToUndo": None,
        "NothingToRedo": None,
    },
    TypeError: {"NotFlag": "value"},
    OverflowError: {"TooMany": "limit", "TooLong": "limit", "TooDear": "value"},
    RuntimeError: {"InTrial": None, "Leaks": "value"},
}

ROWS = [(name, base, field) for base, names in FIELDS.items() for name, field in names.items()]


class ErrorsTest(unittest.TestCase):
    def test_there_are_these_33(self):
        self.assertEqual(len(ROWS), 33)
        there = {name for name, value in vars(errors).items() if isinstance(value, type)}
        self.assertEqual(there, {name for name, _, _ in ROWS})

    def test_each_is_directly_below_its_error(self):
        for name, base, _ in ROWS:
            with self.subTest(name):
                self.assertEqual(getattr(errors, name).__bases__, (base,))
                self.assertEqual(getattr(errors, name).__module__, "heldby.errors")

    def test_each_keeps_the_very_value(self):
        for name, _, field in ROWS:
            if field is not None:
                for value in any_values():
                    with self.subTest(name, value=value):
                        made = getattr(errors, name)
                        self.assertIs(getattr(made(value), field), value)
                        self.assertIs(getattr(made(**{field: value}), field), value)
                        self.assertEqual(list(vars(made(value))), [field])

    def test_those_without_fields(self):
        for name, _, field in ROWS:
            if field is None:
                with self.subTest(name):
                    self.assertEqual(vars(getattr(errors, name)()), {})

    def test_each_can_be_raised_and_caught(self):
        for name, base, field in ROWS:
            with self.subTest(name):
                value = ["a"]
                with self.assertRaises(base) as caught:
                    raise getattr(errors, name)(*([value] if field else []))
                if field:
                    self.assertIs(getattr(caught.exception, field), value)
