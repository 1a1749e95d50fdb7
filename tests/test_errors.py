"""The error classes: their names, their base class and their attributes."""

import unittest

from typefault import errors
from typefault.errors import WriterError

ATTRIBUTES = {
    "InvalidKeyboard": ("index",),
    "UnknownSign": (),
    "InvalidStrokes": ("index",),
    "InvalidMachine": ("part", "index"),
    "InvalidCase": ("part", "index"),
    "UnknownFaults": (),
    "InvalidEvidence": ("index",),
    "NoFit": (),
    "UnlikeMachines": (),
    "InvalidNumber": (),
    "InvalidTests": ("index",),
    "InvalidText": ("index",),
    "InvalidWears": ("index",),
    "InvalidTexts": ("index",),
    "InvalidMachines": ("index",),
    "InvalidCosts": ("fault",),
    "InvalidCell": (),
    "InvalidName": (),
    "UnknownMark": (),
    "InvalidOperation": ("index",),
    "InvalidRow": ("row", "word"),
    "DecodeError": ("offset",),
    "DaybookError": ("row", "word"),
}
VALUES = {"index": 3, "part": "width", "fault": ("swap", 0, 1), "row": 4, "word": 5, "offset": 6}


class ErrorsTest(unittest.TestCase):
    def test_base_class(self):
        self.assertEqual(WriterError.__bases__, (ValueError,))
        self.assertEqual(WriterError.__module__, "typefault.errors")

    def test_all_are_direct_subclasses_defined_here(self):
        for name in ATTRIBUTES:
            with self.subTest(name=name):
                error = getattr(errors, name)
                self.assertEqual(error.__bases__, (WriterError,))
                self.assertEqual(error.__module__, "typefault.errors")

    def test_there_are_no_others(self):
        listed = sorted(error.__name__ for error in WriterError.__subclasses__())
        self.assertEqual(listed, sorted(ATTRIBUTES))

    def test_attributes_are_set(self):
        for name, attributes in ATTRIBUTES.items():
            values = [VALUES[attribute] for attribute in attributes]
            error = getattr(errors, name)(*values)
            for attribute, value in zip(attributes, values):
                with self.subTest(name=name, attribute=attribute):
                    self.assertEqual(getattr(error, attribute), value)

    def test_errors_can_be_raised_and_shown(self):
        for name, attributes in ATTRIBUTES.items():
            error = getattr(errors, name)(*[VALUES[attribute] for attribute in attributes])
            with self.subTest(name=name), self.assertRaises(WriterError):
                self.assertIsInstance(str(error), str)
                raise error
