"""The refusals: their names, and which stands under which."""

import unittest

from benchword import errors
from tests.samples import REFUSALS


class Errors(unittest.TestCase):
    def test_any_refusal_is_a_value_error(self):
        self.assertEqual(errors.BenchError.__bases__, (ValueError,))

    def test_the_six_stand_under_bench_error_and_none_under_another(self):
        self.assertEqual(
            [kind.__name__ for kind in REFUSALS],
            ["TooMany", "BadName", "NoSpeech", "Twice", "NotHeld", "NoText"])
        for kind in REFUSALS:
            self.assertTrue(issubclass(kind, errors.BenchError))
            for other in REFUSALS:
                self.assertEqual(issubclass(kind, other), kind is other)

    def test_they_are_defined_in_their_file(self):
        for kind in (errors.BenchError, *REFUSALS):
            self.assertEqual(kind.__module__, "benchword.errors")
            self.assertIs(getattr(errors, kind.__name__), kind)

    def test_each_can_be_raised_and_caught(self):
        for kind in REFUSALS:
            with self.assertRaises(errors.BenchError):
                raise kind("why")


if __name__ == "__main__":
    unittest.main()
