"""DOC.md [9] and the interface: the errors."""

import unittest

from ownrights import errors

FAMILIES = {
    "PaperError": {"InvalidPaper": ("word", "at")},
    "StoreError": {
        "UnfitRule": ("path",),
        "InvalidSums": ("word", "at"),
        "InvalidFamily": ("word", "at"),
        "UnknownHand": ("hand",),
        "UnknownDeed": ("deed",),
    },
    "ServiceError": {"InvalidEvent": ("event", "reason"), "NothingToUndo": ("steps",)},
    "TextError": {"InvalidText": ("line", "field"), "InvalidRow": ("row",)},
}
ERRORS = [(family, name, fields) for family, rows in FAMILIES.items() for name, fields in rows.items()]


class Touchy:
    """A value that cannot be looked at."""

    def __repr__(self):
        raise AssertionError("looked at")

    __str__ = __eq__ = __len__ = __iter__ = __bool__ = __hash__ = __repr__


class ErrorsTest(unittest.TestCase):
    def test_right_error_derives_directly_from_value_error(self):
        self.assertEqual(errors.RightError.__bases__, (ValueError,))

    def test_families_derive_directly_from_right_error(self):
        for family in FAMILIES:
            with self.subTest(family):
                self.assertEqual(getattr(errors, family).__bases__, (errors.RightError,))

    def test_errors_derive_directly_from_their_family(self):
        for family, name, _ in ERRORS:
            with self.subTest(name):
                self.assertEqual(getattr(errors, name).__bases__, (getattr(errors, family),))

    def test_there_are_no_others(self):
        names = {name for name, value in vars(errors).items() if isinstance(value, type)}
        self.assertEqual(names, {"RightError", *FAMILIES, *[name for _, name, _ in ERRORS]})

    def test_fields_by_position_keep_the_very_objects(self):
        for _, name, fields in ERRORS:
            with self.subTest(name):
                values = [[] for _ in fields]
                error = getattr(errors, name)(*values)
                for field, value in zip(fields, values):
                    self.assertIs(getattr(error, field), value)
                self.assertEqual(sorted(vars(error)), sorted(fields))

    def test_fields_by_name_keep_the_very_objects(self):
        for _, name, fields in ERRORS:
            with self.subTest(name):
                values = {field: [field] for field in reversed(fields)}
                error = getattr(errors, name)(**values)
                for field in fields:
                    self.assertIs(getattr(error, field), values[field])

    def test_exactly_the_fields(self):
        for _, name, fields in ERRORS:
            with self.subTest(name):
                made = getattr(errors, name)
                with self.assertRaises(TypeError):
                    made(*[0 for _ in fields], 0)
                with self.assertRaises(TypeError):
                    made(*[0 for _ in fields[1:]])
                with self.assertRaises(TypeError):
                    made(**{field: 0 for field in fields}, other=0)

    def test_fields_are_not_inspected(self):
        for _, name, fields in ERRORS:
            with self.subTest(name):
                values = [Touchy() for _ in fields]
                error = getattr(errors, name)(*values)
                for field, value in zip(fields, values):
                    self.assertIs(getattr(error, field), value)

    def test_each_can_be_caught_by_its_family_and_as_right_error(self):
        for family, name, fields in ERRORS:
            with self.subTest(name):
                for caught in (getattr(errors, family), errors.RightError, ValueError):
                    with self.assertRaises(caught):
                        raise getattr(errors, name)(*[None for _ in fields])


if __name__ == "__main__":
    unittest.main()
