"""The classes of errors, and their attributes."""

import unittest

from ledlines import errors

ATTRIBUTES = {
    "InvalidDrawing": ("index",),
    "UnknownPiece": (),
    "SamePiece": (),
    "InvalidHalf": (),
    "InvalidNumber": (),
    "InvalidPiece": (),
    "UnlikeCounts": (),
    "InvalidPoint": (),
    "InvalidCell": (),
    "InvalidName": (),
    "UnknownKept": (),
    "InvalidOperation": ("index",),
    "InvalidCount": (),
    "NoDrawing": (),
    "InvalidText": ("row", "word"),
    "DecodeError": ("offset",),
    "ScriptError": ("row",),
    "ExecutionFailed": ("row",),
    "TooLong": (),
}


class ErrorsTest(unittest.TestCase):
    def test_the_base_class_is_a_value_error(self):
        self.assertEqual(errors.LineError.__bases__, (ValueError,))

    def test_all_others_are_its_direct_subclasses(self):
        for name in ATTRIBUTES:
            with self.subTest(name=name):
                self.assertEqual(getattr(errors, name).__bases__, (errors.LineError,))

    def test_there_are_no_other_classes(self):
        found = {name for name, value in vars(errors).items() if isinstance(value, type)}
        self.assertEqual(found, {"LineError", *ATTRIBUTES})

    def test_each_is_defined_in_the_file(self):
        for name in ("LineError", *ATTRIBUTES):
            self.assertEqual(getattr(errors, name).__module__, "ledlines.errors")

    def test_attributes_are_set_by_position(self):
        for name, attributes in ATTRIBUTES.items():
            with self.subTest(name=name):
                error = getattr(errors, name)(*range(5, 5 + len(attributes)))
                self.assertEqual(vars(error), dict(zip(attributes, range(5, 7))))

    def test_attributes_are_set_by_name(self):
        for name, attributes in ATTRIBUTES.items():
            with self.subTest(name=name):
                error = getattr(errors, name)(**{word: 3 for word in attributes})
                self.assertEqual(vars(error), {word: 3 for word in attributes})


if __name__ == "__main__":
    unittest.main()
