"""The error classes, as the interface lists them for onebell/errors.py."""

import unittest

from onebell import errors

EIGHT = ("BadCount", "NoHand", "NoLetter", "NoMail", "Twice", "NotOpen", "BadMark", "NoNote")


class ErrorClasses(unittest.TestCase):
    def test_bell_error_is_a_value_error(self):
        self.assertEqual(errors.BellError.__bases__, (ValueError,))

    def test_each_of_the_eight_is_a_bell_error_and_a_value_error(self):
        for name in EIGHT:
            with self.subTest(name=name):
                kind = getattr(errors, name)
                self.assertTrue(issubclass(kind, errors.BellError))
                self.assertTrue(issubclass(kind, ValueError))
                self.assertEqual(kind.__bases__, (errors.BellError,))

    def test_none_of_the_eight_is_under_another_one(self):
        for name in EIGHT:
            for other in EIGHT:
                if name != other:
                    with self.subTest(name=name, other=other):
                        self.assertFalse(issubclass(getattr(errors, name), getattr(errors, other)))

    def test_bell_error_is_under_none_of_the_eight(self):
        for name in EIGHT:
            with self.subTest(name=name):
                self.assertFalse(issubclass(errors.BellError, getattr(errors, name)))

    def test_each_has_its_own_name_and_is_defined_in_its_file(self):
        for name in EIGHT + ("BellError",):
            with self.subTest(name=name):
                kind = getattr(errors, name)
                self.assertEqual(kind.__name__, name)
                self.assertEqual(kind.__module__, "onebell.errors")

    def test_each_is_raised_and_caught_as_any_refusal(self):
        for name in EIGHT:
            for caught in (getattr(errors, name), errors.BellError, ValueError):
                with self.subTest(name=name, caught=caught.__name__):
                    with self.assertRaises(caught) as held:
                        raise getattr(errors, name)("told")
                    self.assertEqual(str(held.exception), "told")


if __name__ == "__main__":
    unittest.main()
