"""Tests of slotwise/errors.py: the class tree of point 4 and the attributes."""

import inspect
import unittest

from slotwise import errors

PLAIN = (
    "NotCondition", "NotInside", "StatesDiffer", "TooManyTrees", "NotAProduct", "NoProducts", "TooManyChanges",
    "AlreadyChosen", "TooManyChoices", "NotAvailable", "NotChosen", "NothingWithinBudget",
)
NAMED = (
    "UnknownVariable", "DuplicatePort", "DuplicateAttribute", "EmptyRange", "DuplicateOption", "DuplicateComponent",
    "UnknownPort", "DuplicateSlot", "UnknownComponent",
)
OTHERS = {
    "WrongOperands": ("operator",), "ConditionTooLarge": ("places", "depth"), "TooManyStates": ("count",),
    "TooManyAssignments": ("count",), "InvalidRule": ("component", "number"), "InvalidCharge": ("component", "number"),
    "UnknownColumn": ("component", "number", "name"), "DuplicateColumn": ("component", "number", "name"),
    "TooManyParts": ("count",), "Incompatible": ("reason",), "NotReplayable": ("place",),
}
LINES = ("UnknownLine", "MisplacedLine", "InvalidCondition", "DefinitionTooLarge", "MissingLine")
TEXTS = (
    "UnexpectedCharacter", "NumberTooLong", "WordTooLong", "InvalidOption", "TooManyTokens", "UnexpectedToken",
    "NestedTooDeeply", "UnexpectedEnd",
)
VALUES = {
    "name": "joint.size", "operator": "<=", "places": 61, "depth": 17, "count": 10 ** 30, "component": "arm",
    "number": 0, "reason": ("component", "arm"), "place": 7, "line": 12,
}


def attributes_of(name):
    """The attributes that the interface lists for the error."""
    if name in NAMED:
        return ("name",)
    if name in LINES or name == "LineError":
        return ("line",)
    if name in TEXTS or name == "TextError":
        return ("place",)
    return OTHERS.get(name, ())


class TestClassTree(unittest.TestCase):
    def test_all_classes_and_no_others(self):
        names = {name for name, _ in inspect.getmembers(errors, inspect.isclass)}
        expected = set(PLAIN + NAMED + tuple(OTHERS) + LINES + TEXTS + ("SlotError", "LineError", "TextError"))
        self.assertEqual(names, expected)
        for name in names:
            self.assertEqual(getattr(errors, name).__module__, "slotwise.errors")

    def test_base_classes(self):
        self.assertEqual(errors.SlotError.__bases__, (ValueError,))
        for name in PLAIN + NAMED + tuple(OTHERS) + ("LineError", "TextError"):
            self.assertEqual(getattr(errors, name).__bases__, (errors.SlotError,), name)
        for name in LINES:
            self.assertEqual(getattr(errors, name).__bases__, (errors.LineError,), name)
        for name in TEXTS:
            self.assertEqual(getattr(errors, name).__bases__, (errors.TextError,), name)

    def test_no_other_error_is_a_subclass_of_another_one(self):
        bases = {"SlotError", "LineError", "TextError"}
        found = inspect.getmembers(errors, inspect.isclass)
        for name, error in found:
            for other_name, other in found:
                if name != other_name and other_name not in bases:
                    self.assertFalse(issubclass(error, other), (name, other_name))


class TestAttributes(unittest.TestCase):
    def test_attributes_are_set_when_an_error_is_created(self):
        for name, error in inspect.getmembers(errors, inspect.isclass):
            attributes = attributes_of(name)
            made = error(*[VALUES[attribute] for attribute in attributes])
            self.assertEqual(vars(made), {attribute: VALUES[attribute] for attribute in attributes}, name)

    def test_errors_are_caught_by_their_base_classes(self):
        for name, base in (("NumberTooLong", errors.TextError), ("MissingLine", errors.LineError)):
            with self.assertRaises(base) as caught:
                raise getattr(errors, name)(3)
            self.assertIsInstance(caught.exception, ValueError)


if __name__ == "__main__":
    unittest.main()
