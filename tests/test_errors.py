"""The errors: their base classes, their fields and what they tell."""

import unittest

from twopatches.errors import (
    BadCount, BadText, Large, NoBack, NoChange, NoDocument, NoTime, PatchError)

# Each class, its fields with a value each, and what it tells.
ERRORS = (
    (NoDocument, {"path": ("a", "b")}, "refused nodocument"),
    (Large, {"what": "depth"}, "refused large"),
    (BadCount, {"what": "patches", "count": 7}, "refused badcount"),
    (NoChange, {"path": ()}, "refused nochange"),
    (NoTime, {"time": -1}, "refused notime"),
    (NoBack, {}, "refused noback"),
    (BadText, {"place": 12}, "refused badtext"),
)


class Errors(unittest.TestCase):

    def test_the_base_class_derives_from_value_error(self):
        self.assertEqual(PatchError.__bases__, (ValueError,))

    def test_each_class_derives_directly_from_the_base_class_alone(self):
        for error, _, _ in ERRORS:
            with self.subTest(error=error.__name__):
                self.assertEqual(error.__bases__, (PatchError,))

    def test_each_class_defines_told_itself(self):
        for error, _, _ in ERRORS:
            with self.subTest(error=error.__name__):
                self.assertIn("told", vars(error))

    def test_told(self):
        for error, fields, told in ERRORS:
            with self.subTest(error=error.__name__):
                self.assertEqual(error(**fields).told(), told)
                self.assertEqual(told, "refused " + error.__name__.lower())

    def test_told_of_the_base_class(self):
        self.assertEqual(PatchError().told(), "refused patcherror")

    def test_fields_by_name(self):
        for error, fields, _ in ERRORS:
            with self.subTest(error=error.__name__):
                self.assertEqual(vars(error(**fields)), fields)

    def test_fields_by_position(self):
        for error, fields, _ in ERRORS:
            with self.subTest(error=error.__name__):
                self.assertEqual(vars(error(*fields.values())), fields)

    def test_each_can_be_raised_and_caught_by_each_of_its_classes(self):
        for error, fields, _ in ERRORS:
            for caught in (error, PatchError, ValueError):
                with self.subTest(error=error.__name__, caught=caught.__name__):
                    with self.assertRaises(caught):
                        raise error(**fields)

    def test_no_error_is_caught_as_another_one(self):
        for error, fields, _ in ERRORS:
            for other, _, _ in ERRORS:
                if other is not error:
                    self.assertNotIsInstance(error(**fields), other)

    def test_paths_are_stored_as_tuples(self):
        for error in (NoDocument, NoChange):
            path = ["a", "b"]
            raised = error(path)
            path.append("c")
            self.assertEqual(raised.path, ("a", "b"))


if __name__ == "__main__":
    unittest.main()
