"""The error classes, and which stands under which."""

import unittest

from figuretape import errors

REFUSALS = ("BadBase", "BadTape", "TooSmall", "NoDivisor")


class ErrorClasses(unittest.TestCase):
    def test_tape_error_stands_straight_under_value_error(self):
        self.assertEqual(errors.TapeError.__bases__, (ValueError,))

    def test_each_refusal_stands_straight_under_tape_error(self):
        for name in REFUSALS:
            with self.subTest(name=name):
                self.assertEqual(getattr(errors, name).__bases__, (errors.TapeError,))

    def test_the_classes_bear_their_names(self):
        for name in ("TapeError",) + REFUSALS:
            with self.subTest(name=name):
                self.assertEqual(getattr(errors, name).__name__, name)

    def test_no_refusal_is_taken_for_another(self):
        for raised in REFUSALS:
            for other in REFUSALS:
                with self.subTest(raised=raised, other=other):
                    error = getattr(errors, raised)("words")
                    self.assertEqual(isinstance(error, getattr(errors, other)), raised == other)

    def test_each_is_raised_and_taken_as_a_tape_error_and_a_value_error(self):
        for name in ("TapeError",) + REFUSALS:
            for taken in (errors.TapeError, ValueError):
                with self.subTest(name=name, taken=taken.__name__):
                    with self.assertRaises(taken):
                        raise getattr(errors, name)("words")


if __name__ == "__main__":
    unittest.main()
