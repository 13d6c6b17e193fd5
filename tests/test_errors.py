"""The interface, keytape/errors.py: the classes, their base classes and values."""

import unittest

from keytape import errors

PLAIN = ["BadText", "BadKey", "BadName", "BadNames", "BadNumbers", "Taping", "NotTaping", "TooLong"]


class Classes(unittest.TestCase):
    def test_any_refusal_is_a_value_error(self):
        self.assertTrue(issubclass(errors.TapeError, ValueError))
        self.assertEqual(errors.TapeError.__bases__, (ValueError,))

    def test_each_class_is_a_tape_error(self):
        for name in PLAIN + ["BadKeys", "BadTape"]:
            with self.subTest(name):
                self.assertEqual(getattr(errors, name).__bases__, (errors.TapeError,))

    def test_the_classes_are_defined_in_their_file(self):
        for name in PLAIN + ["BadKeys", "BadTape", "TapeError"]:
            with self.subTest(name):
                self.assertEqual(getattr(errors, name).__module__, "keytape.errors")

    def test_the_plain_ones_are_raised_with_a_message(self):
        for name in PLAIN:
            with self.subTest(name):
                self.assertEqual(str(getattr(errors, name)("why")), "why")

    def test_bad_keys_has_the_number_of_the_key(self):
        self.assertEqual(errors.BadKeys(30).at, 30)
        self.assertIn("30", str(errors.BadKeys(30)))

    def test_bad_tape_has_the_number_of_the_row(self):
        self.assertEqual(errors.BadTape(7).line, 7)
        self.assertIn("7", str(errors.BadTape(7)))


if __name__ == "__main__":
    unittest.main()
