"""All error classes of the package."""

import unittest

from shoepile import errors

PLAIN = ("InvalidTick", "InvalidNumber", "InvalidPeriod", "TooManyGuests", "Contradiction",
         "InvalidName", "TooEarly", "TooWide")
WITH_ATTRIBUTE = {
    "InvalidStay": "index", "UnknownGuest": "name", "InvalidRing": "index", "InvalidGoings": "index",
    "InvalidOperation": "index", "InvalidText": "row", "DaybookError": "row", "DecodeError": "offset",
}


class ErrorsTest(unittest.TestCase):
    def test_base_class_is_a_value_error(self):
        self.assertEqual(errors.PartyError.__bases__, (ValueError,))

    def test_each_class_stands_directly_below_the_base_class(self):
        for name in [*PLAIN, *WITH_ATTRIBUTE]:
            with self.subTest(name):
                self.assertEqual(getattr(errors, name).__bases__, (errors.PartyError,))

    def test_classes_are_defined_in_the_file(self):
        for name in ["PartyError", *PLAIN, *WITH_ATTRIBUTE]:
            self.assertEqual(getattr(errors, name).__module__, "shoepile.errors")

    def test_plain_errors_can_be_created(self):
        for name in PLAIN:
            with self.subTest(name), self.assertRaises(errors.PartyError):
                raise getattr(errors, name)()

    def test_attributes_are_given_as_keywords(self):
        for name, attribute in WITH_ATTRIBUTE.items():
            for value in (0, 7, "zed"):
                with self.subTest(name, value=value):
                    error = getattr(errors, name)(**{attribute: value})
                    self.assertEqual(getattr(error, attribute), value)
