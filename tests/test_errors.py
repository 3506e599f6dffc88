"""The refusals: all there, each straight under LogError, none under another."""

import unittest

from ringlog import errors

REFUSALS = [
    "BadDisk", "NoBlock", "BadBlock", "BadStop", "Stopped",
    "BadRow", "Full", "Empty", "Gone", "BadOrder",
]


class ErrorsTest(unittest.TestCase):

    def test_log_error_stands_straight_under_value_error(self):
        self.assertEqual(errors.LogError.__bases__, (ValueError,))
        self.assertEqual(errors.LogError.__module__, "ringlog.errors")

    def test_each_refusal_stands_straight_under_log_error(self):
        for name in REFUSALS:
            with self.subTest(name):
                refusal = getattr(errors, name)
                self.assertEqual(refusal.__bases__, (errors.LogError,))
                self.assertEqual(refusal.__name__, name)
                self.assertEqual(refusal.__module__, "ringlog.errors")

    def test_no_refusal_is_caught_as_another(self):
        found = [getattr(errors, name) for name in REFUSALS]
        for one in found:
            for other in found:
                self.assertEqual(issubclass(one, other), one is other)

    def test_each_refusal_can_be_raised_with_a_text_and_without(self):
        for name in REFUSALS:
            refusal = getattr(errors, name)
            with self.assertRaises(errors.LogError):
                raise refusal("why")
            with self.assertRaises(errors.LogError):
                raise refusal()
