"""Point [3]: the error classes."""

import unittest

from surepresses import errors

NAMES = [
    "InvalidName", "DoubleName", "UnknownButton", "UnknownLamp", "InvalidStep", "InvalidState", "InvalidBelief",
    "InvalidGoal", "Harmful", "UnlikeDevices", "WrongPlan", "ImpossibleAnswer", "NoPlan", "NothingToUndo",
    "Unreadable",
]
VALUES = [
    None, True, False, 0, -5, 10 ** 60, "", "push", [], [(0, 1)], (), (0, "push"), {}, {"push": (0, [])}, object(),
    ValueError("inner"),
]


class ErrorTest(unittest.TestCase):
    def all_classes(self):
        return [errors.PressError] + [getattr(errors, name) for name in NAMES]

    def test_there_are_sixteen_classes(self):
        found = [
            name for name in vars(errors)
            if isinstance(getattr(errors, name), type) and issubclass(getattr(errors, name), BaseException)
        ]
        self.assertEqual(sorted(found), sorted(NAMES + ["PressError"]))
        self.assertEqual(len(found), 16)

    def test_bases(self):
        self.assertEqual(errors.PressError.__bases__, (ValueError,))
        for name in NAMES:
            self.assertEqual(getattr(errors, name).__bases__, (errors.PressError,), name)

    def test_no_class_is_a_subclass_of_another_one(self):
        for one in self.all_classes()[1:]:
            for other in self.all_classes()[1:]:
                self.assertEqual(issubclass(one, other), one is other)

    def test_each_class_is_defined_in_its_file(self):
        for made in self.all_classes():
            self.assertEqual(made.__module__, "surepresses.errors")

    def test_the_very_value_is_stored(self):
        for made in self.all_classes():
            for value in VALUES:
                self.assertIs(made(value).value, value)
                self.assertIs(made(value=value).value, value)

    def test_the_attribute_is_set_on_the_object_itself(self):
        for made in self.all_classes():
            self.assertEqual(vars(made(3)), {"value": 3})

    def test_other_numbers_of_arguments(self):
        for made in self.all_classes():
            self.assertRaises(TypeError, made)
            self.assertRaises(TypeError, made, 1, 2)
            self.assertRaises(TypeError, made, other=1)

    def test_raised_and_caught(self):
        for made in self.all_classes():
            with self.assertRaises(errors.PressError) as caught:
                raise made([1])
            self.assertEqual(caught.exception.value, [1])
            self.assertIsInstance(caught.exception, ValueError)
