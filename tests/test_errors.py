import unittest

from onestepcourt import errors
from onestepcourt.errors import (
    BadCall, BadFit, BadOpening, BadProgram, BadSchedule, BadSource, BadTree, CourtError,
)

# Each error with its arguments, by the names of the attributes.
ERRORS = (
    (BadSource, {"line": 3, "reason": "no such word"}),
    (BadTree, {}),
    (BadProgram, {"reason": "no such name"}),
    (BadFit, {}),
    (BadOpening, {}),
    (BadCall, {}),
    (BadSchedule, {"line": 12}),
)


class Errors(unittest.TestCase):
    def test_the_common_error_is_a_value_error(self):
        self.assertEqual(CourtError.__bases__, (ValueError,))

    def test_each_error_is_a_direct_subclass(self):
        for error, _ in ERRORS:
            with self.subTest(error.__name__):
                self.assertEqual(error.__bases__, (CourtError,))

    def test_no_error_is_below_another_one(self):
        for error, _ in ERRORS:
            for other, _ in ERRORS:
                if error != other:
                    self.assertFalse(issubclass(error, other), (error, other))

    def test_arguments_are_kept_as_attributes(self):
        for error, told in ERRORS:
            with self.subTest(error.__name__):
                made = error(*told.values())
                self.assertEqual(vars(made), told)

    def test_arguments_have_their_names(self):
        for error, told in ERRORS:
            with self.subTest(error.__name__):
                self.assertEqual(vars(error(**told)), told)

    def test_arguments_may_be_zero_and_empty(self):
        self.assertEqual(vars(BadSource(0, "")), {"line": 0, "reason": ""})
        self.assertEqual(vars(BadSchedule(0)), {"line": 0})

    def test_a_missing_argument_is_refused(self):
        for error, told in ERRORS:
            if told:
                with self.subTest(error.__name__), self.assertRaises(TypeError):
                    error(*list(told.values())[1:])

    def test_each_error_is_raised_and_caught_by_its_name(self):
        for error, told in ERRORS:
            for caught in (error, CourtError, ValueError):
                with self.subTest(error.__name__, caught=caught), self.assertRaises(caught) as raised:
                    raise error(*told.values())
                self.assertEqual(vars(raised.exception), told)

    def test_the_errors_are_defined_in_their_file(self):
        for error in [CourtError] + [error for error, _ in ERRORS]:
            self.assertEqual(error.__module__, errors.__name__)


if __name__ == "__main__":
    unittest.main()
