"""The exceptions of the interface."""

import inspect
import unittest

from fewtuners import errors

ATTRIBUTES = {
    "InvalidSending": ("part",),
    "InvalidListing": ("name",),
    "UnknownName": (),
    "InvalidRule": ("part",),
    "InvalidBook": (),
    "UnknownEpisode": (),
    "NotWished": (),
    "InvalidNumber": (),
    "InvalidDelay": ("name",),
    "InvalidPool": (),
    "InvalidLog": ("index",),
    "NoFit": (),
    "InvalidBooks": ("index",),
    "UnknownChannel": (),
    "NoDelay": (),
    "InvalidRows": ("index",),
    "InvalidSpan": (),
    "DoubleName": (),
    "InvalidName": (),
    "UnknownMark": (),
    "InvalidOperation": ("index",),
    "InvalidRow": ("row", "word"),
    "DecodeError": ("offset",),
    "DaybookError": ("row", "word"),
}


class ErrorsTest(unittest.TestCase):
    def test_the_base_class_is_a_value_error(self):
        self.assertEqual(errors.RecorderError.__bases__, (ValueError,))

    def test_all_others_are_direct_subclasses(self):
        for name in ATTRIBUTES:
            with self.subTest(name):
                self.assertEqual(getattr(errors, name).__bases__, (errors.RecorderError,))

    def test_there_are_no_others(self):
        found = {name for name, value in vars(errors).items() if inspect.isclass(value)}
        self.assertEqual(found, {"RecorderError", *ATTRIBUTES})

    def test_attributes_are_set_at_creation(self):
        for name, attributes in ATTRIBUTES.items():
            with self.subTest(name):
                values = [f"told {attribute}" for attribute in attributes]
                error = getattr(errors, name)(*values)
                self.assertEqual(vars(error), dict(zip(attributes, values)))


if __name__ == "__main__":
    unittest.main()
