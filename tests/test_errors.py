"""[88]: the errors of the package."""

import importlib
import inspect
import unittest

from heardonce import errors
from heardonce.errors import HeardError, InvalidOctets, TooMany
from tests.interface import CLASSES, FUNCTIONS, MESSAGE_ERRORS, function_of


class Errors(unittest.TestCase):
    def test_base_class(self):
        self.assertEqual(HeardError.__bases__, (ValueError,))
        self.assertEqual(str(HeardError("a b")), "a b")

    def test_direct_subclasses(self):
        for name in MESSAGE_ERRORS + ("InvalidOctets", "TooMany"):
            self.assertEqual(getattr(errors, name).__bases__, (HeardError,), name)
            self.assertEqual(getattr(errors, name).__module__, "heardonce.errors")
        self.assertEqual(len(set(MESSAGE_ERRORS)), 49)

    def test_no_other_error(self):
        classes = {name for name, value in vars(errors).items() if inspect.isclass(value)}
        self.assertEqual(classes, {"HeardError", "InvalidOctets", "TooMany", *MESSAGE_ERRORS})

    def test_messages(self):
        for name in MESSAGE_ERRORS:
            error = getattr(errors, name)("what is wrong")
            self.assertEqual(str(error), "what is wrong")
            self.assertEqual(error.args, ("what is wrong",))

    def test_attributes(self):
        for value in (0, 7, 999, None, "a"):
            self.assertEqual(InvalidOctets(value).at, value)
            self.assertEqual(TooMany(value).limit, value)
        self.assertFalse(hasattr(InvalidOctets(1), "limit"))
        self.assertFalse(hasattr(TooMany(1), "at"))

    def test_caught_as_value_error(self):
        for error in (HeardError("a"), InvalidOctets(3), TooMany(4), errors.CannotHappen("b")):
            with self.assertRaises(ValueError):
                raise error


class Interface(unittest.TestCase):
    def test_functions_stand_in_their_files(self):
        for module, names in FUNCTIONS.items():
            for name in names:
                function = function_of(module, name)
                self.assertTrue(inspect.isfunction(function), name)
                self.assertEqual(function.__module__, f"heardonce.{module}")

    def test_classes_stand_in_their_files(self):
        for module, (name, methods) in CLASSES.items():
            told = function_of(module, name)
            self.assertTrue(inspect.isclass(told), name)
            self.assertEqual((told.__module__, told.__bases__), (f"heardonce.{module}", (object,)))
            for method in methods:
                self.assertIn(method, vars(told), name)

    def test_package_binds_no_names(self):
        package = importlib.import_module("heardonce")
        for names in FUNCTIONS.values():
            for name in names:
                self.assertFalse(inspect.isfunction(getattr(package, name, None)))


if __name__ == "__main__":
    unittest.main()
