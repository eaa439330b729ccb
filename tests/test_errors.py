"""Errors: points 1.1 and 1.2."""

import unittest

from lethe import errors

NAMES = ["NotAllowed", "BadForm", "Full", "Missing", "Twice", "Down"]


class TestErrors(unittest.TestCase):
    def test_base_is_a_value_error(self):
        self.assertEqual(errors.LetheError.__bases__, (ValueError,))

    def test_each_class_derives_from_the_base_alone(self):
        for name in NAMES:
            self.assertEqual(getattr(errors, name).__bases__, (errors.LetheError,), name)

    def test_no_class_is_a_sibling(self):
        for name in NAMES:
            for other in NAMES:
                if name != other:
                    self.assertFalse(issubclass(getattr(errors, name), getattr(errors, other)))

    def test_each_class_can_be_raised(self):
        for name in NAMES:
            with self.assertRaises(errors.LetheError) as caught:
                raise getattr(errors, name)("some words")
            self.assertEqual(str(caught.exception), "some words")


if __name__ == "__main__":
    unittest.main()
