"""The error classes: their attributes, their base class, and that none is a subclass of another."""

import unittest

from helpers import odd_values
from latewise import errors

ATTRIBUTES = {
    "BadSwitches": (),
    "BadKinds": (),
    "BadRow": ("index",),
    "BadPlan": ("index",),
    "BadRule": (),
    "Unfit": ("place", "kind"),
    "BadFactor": (),
    "TooManyStates": (),
    "TooManyRules": (),
    "BadFollows": (),
    "OtherModes": (),
    "TooDear": (),
    "UnknownKind": ("kind",),
    "UnknownMark": ("number",),
    "BadMixture": (),
    "BadRules": (),
    "BadSource": (),
    "UnfitSource": ("place", "kind"),
    "NotDrawn": ("kind",),
    "UnknownDraw": ("number",),
    "AlreadyDrawn": (),
}


class ErrorsTest(unittest.TestCase):
    def test_there_are_twenty_one_and_the_base(self):
        found = [name for name in vars(errors) if isinstance(getattr(errors, name), type)]
        self.assertEqual(sorted(found), sorted(list(ATTRIBUTES) + ["WiseError"]))
        self.assertEqual(len(ATTRIBUTES), 21)

    def test_each_stands_in_the_file(self):
        for name in list(ATTRIBUTES) + ["WiseError"]:
            self.assertEqual(getattr(errors, name).__module__, "latewise.errors")

    def test_base_class(self):
        self.assertEqual(errors.WiseError.__bases__, (ValueError,))
        self.assertIsInstance(errors.WiseError(), ValueError)

    def test_each_is_of_no_other_class(self):
        for name in ATTRIBUTES:
            with self.subTest(name):
                one = getattr(errors, name)
                self.assertEqual(one.__mro__[:3], (one, errors.WiseError, ValueError))
                self.assertEqual(one.__bases__, (errors.WiseError,))

    def test_none_is_an_instance_of_another_one(self):
        for name, attributes in ATTRIBUTES.items():
            made = getattr(errors, name)(*range(len(attributes)))
            for other in ATTRIBUTES:
                self.assertEqual(isinstance(made, getattr(errors, other)), name == other, (name, other))

    def test_attributes_by_position(self):
        for name, attributes in ATTRIBUTES.items():
            values = [f"value {k}" for k in range(len(attributes))]
            made = getattr(errors, name)(*values)
            self.assertEqual([getattr(made, attribute) for attribute in attributes], values, name)
            self.assertEqual(sorted(vars(made)), sorted(attributes), name)

    def test_attributes_by_name(self):
        for name, attributes in ATTRIBUTES.items():
            values = {attribute: f"value {attribute}" for attribute in reversed(attributes)}
            made = getattr(errors, name)(**values)
            self.assertEqual(vars(made), values, name)

    def test_attributes_have_whatever_is_passed(self):
        for name, attributes in ATTRIBUTES.items():
            for value in odd_values():
                made = getattr(errors, name)(*[value for _ in attributes])
                for attribute in attributes:
                    self.assertIs(getattr(made, attribute), value)

    def test_arguments_are_needed_as_shown(self):
        for name, attributes in ATTRIBUTES.items():
            if attributes:
                with self.assertRaises(TypeError):
                    getattr(errors, name)()

    def test_they_can_be_raised_and_caught_as_the_base(self):
        for name, attributes in ATTRIBUTES.items():
            with self.assertRaises(errors.WiseError):
                raise getattr(errors, name)(*range(len(attributes)))


if __name__ == "__main__":
    unittest.main()
