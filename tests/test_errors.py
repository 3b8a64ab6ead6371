"""The refusals, as the interface lists them."""

import unittest

from waypins import errors

WITH_TEXT = (
    "NoBoard", "NoPins", "NoPin", "NoLook", "NoNumber", "NoStand", "NoRow", "NotLaid", "NoDeed", "NoText", "NoLine",
)


class Errors(unittest.TestCase):
    def test_pin_error_is_a_value_error(self):
        self.assertEqual(errors.PinError.__bases__, (ValueError,))
        self.assertEqual(str(errors.PinError("why")), "why")

    def test_each_stands_straight_under_pin_error(self):
        for name in (*WITH_TEXT, "TooFew"):
            with self.subTest(name):
                found = getattr(errors, name)
                self.assertEqual(found.__bases__, (errors.PinError,))
                self.assertEqual(found.__name__, name)
                self.assertEqual(found.__module__, "waypins.errors")

    def test_each_is_made_with_a_text(self):
        for name in WITH_TEXT:
            with self.subTest(name):
                made = getattr(errors, name)("some words")
                self.assertEqual(str(made), "some words")
                with self.assertRaises(ValueError):
                    raise made

    def test_too_few_has_its_fields(self):
        made = (
            errors.TooFew(2, 3), errors.TooFew(2, least=3), errors.TooFew(many=2, least=3),
            errors.TooFew(least=3, many=2),
        )
        for one in made:
            self.assertEqual(repr((one.many, one.least)), "(2, 3)")
            self.assertIsInstance(str(one), str)
            with self.assertRaises(errors.PinError):
                raise one
        one = errors.TooFew(7, 11)
        self.assertEqual((one.many, one.least), (7, 11))

    def test_too_few_takes_both_fields(self):
        for arguments in ((), (2,), (2, 3, 4)):
            with self.assertRaises(TypeError):
                errors.TooFew(*arguments)


if __name__ == "__main__":
    unittest.main()
