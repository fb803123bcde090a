"""Errors: the interface, patchweave/errors.py."""

import unittest

from patchweave import errors

EIGHT = ["BadChange", "NotLeaned", "Twice", "Missing", "NoLine", "Other", "Ring", "NoNote"]


class Errors(unittest.TestCase):
    def test_weave_error_stands_below_value_error(self):
        self.assertTrue(issubclass(errors.WeaveError, ValueError))
        self.assertEqual(errors.WeaveError.__module__, "patchweave.errors")

    def test_each_stands_below_weave_error_alone(self):
        for name in EIGHT:
            with self.subTest(name=name):
                kind = getattr(errors, name)
                self.assertEqual(kind.__name__, name)
                self.assertEqual(kind.__module__, "patchweave.errors")
                self.assertEqual(kind.__bases__, (errors.WeaveError,))
                self.assertTrue(issubclass(kind, ValueError))

    def test_none_stands_below_another_of_the_eight(self):
        for name in EIGHT:
            for other in EIGHT:
                if name != other:
                    with self.subTest(name=name, other=other):
                        self.assertFalse(issubclass(getattr(errors, name), getattr(errors, other)))

    def test_each_is_raised_and_caught(self):
        for name in EIGHT:
            with self.subTest(name=name):
                with self.assertRaises(errors.WeaveError) as caught:
                    raise getattr(errors, name)("why")
                self.assertEqual(str(caught.exception), "why")


if __name__ == "__main__":
    unittest.main()
