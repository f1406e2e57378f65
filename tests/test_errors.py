"""Points 2 and 3: the error classes and their attributes."""

import inspect
import unittest

from toldonward import errors

ARGUMENTS = {
    "InvalidProgram": ("part", "path"),
    "InvalidRule": ("part",),
    "InvalidStart": ("words",),
    "InvalidStanding": (),
    "InvalidDeed": ("deed",),
    "InvalidPath": ("path",),
    "InvalidBound": ("value",),
    "InvalidText": ("line",),
    "UnknownCell": ("name",),
    "UnknownWord": ("word",),
    "TooManyRuns": ("most",),
    "NothingToUndo": (),
    "LimitExceeded": ("limit",),
    "NoStanding": (),
    "NoFault": ("kind", "name"),
    "InvalidKind": ("kind",),
    "NotComparable": ("part",),
    "UnknownName": ("name",),
    "InvalidChange": ("index",),
    "NothingToRedo": (),
    "InvalidSources": ("sources",),
}


class ErrorsTest(unittest.TestCase):
    def test_base_stands_directly_under_value_error(self):
        self.assertEqual(errors.ToldError.__bases__, (ValueError,))

    def test_there_are_no_other_classes(self):
        found = {name for name, value in vars(errors).items() if inspect.isclass(value)}
        self.assertEqual(found, set(ARGUMENTS) | {"ToldError"})

    def test_each_stands_directly_under_told_error(self):
        for name in ARGUMENTS:
            with self.subTest(name):
                kind = getattr(errors, name)
                self.assertEqual(kind.__bases__, (errors.ToldError,))
                self.assertEqual(kind.__module__, "toldonward.errors")

    def test_attributes_hold_what_was_passed(self):
        for name, arguments in ARGUMENTS.items():
            with self.subTest(name):
                values = [[index, name] for index in range(len(arguments))]
                error = getattr(errors, name)(*values)
                self.assertEqual(vars(error), dict(zip(arguments, values)))
                for argument, value in zip(arguments, values):
                    self.assertIs(getattr(error, argument), value)

    def test_arguments_have_the_names_of_the_attributes(self):
        for name, arguments in ARGUMENTS.items():
            with self.subTest(name):
                values = {argument: object() for argument in arguments}
                self.assertEqual(vars(getattr(errors, name)(**values)), values)

    def test_any_value_is_held(self):
        deep = ()
        for _ in range(20):
            deep = [deep]
        for value in (None, True, 0, "", (), deep, {"a": deep}):
            self.assertIs(errors.InvalidDeed(value).deed, value)
            self.assertIs(errors.NoFault(value, None).kind, value)

    def test_wrong_numbers_of_arguments(self):
        for name, arguments in ARGUMENTS.items():
            if arguments:
                with self.subTest(name), self.assertRaises(TypeError):
                    getattr(errors, name)(*([0] * (len(arguments) + 1)))
                with self.subTest(name), self.assertRaises(TypeError):
                    getattr(errors, name)(*([0] * (len(arguments) - 1)))

    def test_they_are_caught_as_value_errors(self):
        for name, arguments in ARGUMENTS.items():
            with self.subTest(name), self.assertRaises(ValueError):
                raise getattr(errors, name)(*arguments)

    def test_each_has_a_text(self):
        for name, arguments in ARGUMENTS.items():
            with self.subTest(name):
                for values in (["d"] * len(arguments), [None] * len(arguments), [("a", ["b"])] * len(arguments)):
                    error = getattr(errors, name)(*values)
                    self.assertIs(type(str(error)), str)
                    self.assertTrue(repr(error).startswith(name + "("))

    def test_they_are_not_kinds_of_each_other(self):
        for name in ARGUMENTS:
            for other in ARGUMENTS:
                self.assertEqual(issubclass(getattr(errors, name), getattr(errors, other)), name == other)
