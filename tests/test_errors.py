"""The refusals: their names, and how they stand to each other."""

import unittest

from stealyard import errors

REFUSALS = ["TooMany", "NoCrew", "NoTask", "Early", "Twice", "NoWorker", "NoStep"]


class ErrorsTest(unittest.TestCase):
    def test_yard_error_is_a_value_error(self):
        self.assertEqual(errors.YardError.__bases__, (ValueError,))

    def test_each_refusal_stands_straight_under_yard_error(self):
        for name in REFUSALS:
            with self.subTest(name):
                self.assertEqual(getattr(errors, name).__bases__, (errors.YardError,))

    def test_each_can_be_raised_and_caught_alone(self):
        for name in REFUSALS:
            for other in REFUSALS:
                with self.subTest(raised=name, caught=other):
                    raised = getattr(errors, name)("why")
                    self.assertEqual(isinstance(raised, getattr(errors, other)), name == other)
                    self.assertIsInstance(raised, errors.YardError)
                    self.assertIsInstance(raised, ValueError)

    def test_each_is_defined_in_this_file(self):
        for name in ["YardError"] + REFUSALS:
            self.assertEqual(getattr(errors, name).__module__, "stealyard.errors")
            self.assertEqual(getattr(errors, name).__name__, name)


if __name__ == "__main__":
    unittest.main()
