"""The refusals, as DOC.md's interface names them under growrow/errors.py."""

import unittest

from growrow import errors

REFUSALS = ("BadRules", "BadRow", "BadLetter", "BadTimes", "BadPlace", "TooLong", "OtherRules")


class ErrorsTest(unittest.TestCase):
    def test_grow_error_stands_straight_under_value_error(self):
        self.assertEqual(errors.GrowError.__bases__, (ValueError,))

    def test_each_refusal_stands_straight_under_grow_error(self):
        for name in REFUSALS:
            with self.subTest(name):
                self.assertEqual(getattr(errors, name).__bases__, (errors.GrowError,))

    def test_no_refusal_stands_under_another(self):
        for one in REFUSALS:
            for other in REFUSALS:
                if one != other:
                    with self.subTest(one=one, other=other):
                        self.assertFalse(issubclass(getattr(errors, one), getattr(errors, other)))

    def test_each_bears_its_own_name(self):
        for name in ("GrowError",) + REFUSALS:
            with self.subTest(name):
                self.assertEqual(getattr(errors, name).__name__, name)

    def test_each_refusal_is_taken_as_grow_error_and_as_value_error(self):
        for name in REFUSALS:
            for taken in (errors.GrowError, ValueError):
                with self.subTest(name=name, taken=taken):
                    with self.assertRaises(taken):
                        raise getattr(errors, name)("words")


if __name__ == "__main__":
    unittest.main()
