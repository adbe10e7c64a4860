"""Promise [18]: the error classes."""

import unittest

import farhandles.errors
from tests.samples import VALUES

ARGUMENTS = {
    "BadKinds": "value", "BadHandles": "value", "BadRules": "value", "BadRule": "number", "NamedTwice": "name",
    "BadStart": "value", "BadCount": "value", "NoRule": "value", "NoKind": "value", "NotDone": "number",
    "BadPrices": "value", "NoEnd": "name", "BadUntold": "value", "BadWeights": "value", "BadLetters": "value",
    "BadTimes": "value", "BadName": "value", "NoThing": "value", "NoHolder": "value", "NotHeld": "name",
    "BadLine": "line",
}


def error_class(name):
    return getattr(farhandles.errors, name)


class Errors(unittest.TestCase):
    def test_handle_error_is_directly_a_value_error(self):
        self.assertEqual(farhandles.errors.HandleError.__bases__, (ValueError,))

    def test_each_is_directly_a_handle_error(self):
        for name in [*ARGUMENTS, "Nothing"]:
            with self.subTest(name):
                self.assertEqual(error_class(name).__bases__, (farhandles.errors.HandleError,))
                self.assertEqual(error_class(name).__name__, name)

    def test_all_stand_in_the_file(self):
        for name in ["HandleError", *ARGUMENTS, "Nothing"]:
            self.assertEqual(error_class(name).__module__, "farhandles.errors")

    def test_argument_by_position_is_kept(self):
        for name, argument in ARGUMENTS.items():
            for value in VALUES:
                with self.subTest(name):
                    error = error_class(name)(value)
                    self.assertIs(getattr(error, argument), value)
                    self.assertEqual(vars(error), {argument: value})

    def test_argument_by_name_is_kept(self):
        for name, argument in ARGUMENTS.items():
            for value in VALUES:
                with self.subTest(name):
                    self.assertIs(getattr(error_class(name)(**{argument: value}), argument), value)

    def test_argument_is_asked_for(self):
        for name, argument in ARGUMENTS.items():
            with self.subTest(name):
                self.assertRaises(TypeError, error_class(name))
                self.assertRaises(TypeError, error_class(name), 1, 2)
                self.assertRaises(TypeError, error_class(name), **{argument + "s": 1})

    def test_nothing_takes_none(self):
        self.assertEqual(vars(farhandles.errors.Nothing()), {})
        self.assertRaises(TypeError, farhandles.errors.Nothing, 1)
        self.assertRaises(TypeError, farhandles.errors.Nothing, value=1)

    def test_they_are_raised_and_caught(self):
        for name, argument in ARGUMENTS.items():
            for base in (error_class(name), farhandles.errors.HandleError, ValueError):
                with self.subTest(name), self.assertRaises(base) as caught:
                    raise error_class(name)(name)
                self.assertEqual(getattr(caught.exception, argument), name)
        with self.assertRaises(farhandles.errors.HandleError):
            raise farhandles.errors.Nothing()
