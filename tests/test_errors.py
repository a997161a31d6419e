"""Points 1 and 2: the classes of errors."""

import unittest

from linkwork import errors

NAMES = (
    "ByZero", "TooLarge", "NoValue", "BadKind", "BadSystem", "BadModel", "BadText", "BadLibrary",
    "Singular", "NoSolution", "ManySolutions", "NotLinear", "BadReset", "TooMany",
)


class ErrorTest(unittest.TestCase):
    def test_each_error_derives_from_the_base_alone(self):
        for name in NAMES:
            with self.subTest(name=name):
                self.assertEqual(getattr(errors, name).__bases__, (errors.LinkworkError,))

    def test_the_base_is_a_value_error(self):
        self.assertEqual(errors.LinkworkError.__bases__, (ValueError,))

    def test_no_other_classes_of_errors(self):
        classes = [name for name, value in vars(errors).items() if isinstance(value, type)]
        self.assertEqual(sorted(classes), sorted([*NAMES, "LinkworkError"]))

    def test_fields(self):
        self.assertEqual(errors.BadText(7).at, 7)
        self.assertEqual(errors.BadLibrary("Pump").name, "Pump")

    def test_errors_without_fields_can_be_raised_with_a_message(self):
        for name in NAMES:
            if name not in ("BadText", "BadLibrary"):
                with self.assertRaises(errors.LinkworkError):
                    raise getattr(errors, name)("why")


if __name__ == "__main__":
    unittest.main()
