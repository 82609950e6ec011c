"""errors.py: the classes of errors."""

import unittest

from turnedrows import errors

NAMES = (
    "InvalidRow", "InvalidMove", "InvalidBody", "InvalidTree", "InvalidText", "InvalidName", "UnknownName",
    "TooMany", "OutOfRange",
)


class Errors(unittest.TestCase):
    def test_base_class(self):
        self.assertEqual(errors.TurnedrowsError.__bases__, (ValueError,))

    def test_each_error_is_directly_under_the_base_class(self):
        for name in NAMES:
            self.assertEqual(getattr(errors, name).__bases__, (errors.TurnedrowsError,), name)

    def test_errors_can_be_raised_with_a_message(self):
        for name in NAMES + ("TurnedrowsError",):
            with self.assertRaises(errors.TurnedrowsError) as caught:
                raise getattr(errors, name)("why")
            self.assertEqual(str(caught.exception), "why")
            self.assertIs(type(caught.exception), getattr(errors, name))


if __name__ == "__main__":
    unittest.main()
