"""The exceptions of smallspaces.errors."""

import inspect
import unittest

from smallspaces import errors

NAMES = [
    "InvalidSetting", "InvalidRow", "InvalidRows", "InvalidSubspace", "InvalidNumber", "InvalidSystem", "NotInside",
    "NoSolution", "NothingToUndo", "ParseError",
]


class ErrorsTest(unittest.TestCase):

    def test_the_base_class_is_a_direct_subclass_of_value_error(self):
        self.assertTrue(inspect.isclass(errors.SpaceError))
        self.assertEqual(errors.SpaceError.__bases__, (ValueError,))

    def test_each_exception_is_a_direct_subclass_of_the_base_class_alone(self):
        for name in NAMES:
            self.assertEqual(getattr(errors, name).__bases__, (errors.SpaceError,), name)

    def test_no_exception_inherits_from_another_one(self):
        for one in NAMES:
            for other in NAMES:
                inherits = issubclass(getattr(errors, one), getattr(errors, other))
                self.assertEqual(inherits, one == other, (one, other))

    def test_there_are_no_other_subclasses(self):
        names = sorted(found.__name__ for found in errors.SpaceError.__subclasses__())
        self.assertEqual(names, sorted(NAMES))

    def test_each_class_is_defined_under_its_name_in_errors(self):
        for name in NAMES + ["SpaceError"]:
            found = getattr(errors, name)
            self.assertEqual(found.__name__, name)
            self.assertEqual(found.__module__, "smallspaces.errors")

    def test_exceptions_are_raised_and_caught_by_each_of_their_names(self):
        for name in NAMES:
            for caught in (getattr(errors, name), errors.SpaceError, ValueError):
                with self.assertRaises(caught):
                    raise getattr(errors, name)("a reason")


if __name__ == "__main__":
    unittest.main()
