"""[12] errors: families, fields and their objects."""

import unittest

from clashborn import errors

FIELDS = {
    "InvalidPaper": ("PaperError", ("word", "at")),
    "NotUsable": ("HouseError", ("word", "at")),
    "Odd": ("HouseError", ("lot",)),
    "Unlike": ("HouseError", ("kind",)),
    "Ringed": ("HouseError", ("lot",)),
    "Refused": ("HouseError", ("paper",)),
    "Shared": ("HouseError", ("piece",)),
    "InvalidEvent": ("LiveError", ("event", "reason")),
    "NothingToUndo": ("LiveError", ("steps",)),
    "InvalidText": ("TextError", ("line", "field")),
}
FAMILIES = ("PaperError", "HouseError", "LiveError", "TextError")


class ErrorsTest(unittest.TestCase):
    def test_families(self):
        self.assertEqual(errors.BornError.__bases__, (ValueError,))
        for name in FAMILIES:
            self.assertEqual(getattr(errors, name).__bases__, (errors.BornError,))

    def test_each_error_is_derived_directly_from_its_family(self):
        for name, (family, _) in FIELDS.items():
            self.assertEqual(getattr(errors, name).__bases__, (getattr(errors, family),))

    def test_each_error_is_defined_in_the_file(self):
        for name in FAMILIES + tuple(FIELDS) + ("BornError",):
            self.assertEqual(getattr(errors, name).__module__, "clashborn.errors")

    def test_fields_are_the_very_objects(self):
        for name, (_, fields) in FIELDS.items():
            for kind in (lambda: [[]], lambda: {"a": 1}, lambda: ("x", [1]), lambda: "word", lambda: None):
                values = [kind() for _ in fields]
                by_place = getattr(errors, name)(*values)
                by_name = getattr(errors, name)(**dict(zip(fields, values)))
                for error in (by_place, by_name):
                    self.assertEqual(tuple(vars(error)), fields)
                    for field, value in zip(fields, values):
                        self.assertIs(getattr(error, field), value)

    def test_exactly_the_fields(self):
        for name, (_, fields) in FIELDS.items():
            error_class = getattr(errors, name)
            self.assertRaises(TypeError, error_class)
            self.assertRaises(TypeError, error_class, *range(len(fields) + 1))
            self.assertRaises(TypeError, error_class, *range(len(fields) - 1))

    def test_errors_can_be_raised_and_caught_by_family(self):
        for name, (family, fields) in FIELDS.items():
            for caught in (getattr(errors, family), errors.BornError, ValueError):
                with self.assertRaises(caught):
                    raise getattr(errors, name)(*fields)


if __name__ == "__main__":
    unittest.main()
