"""The classes of tessera.errors and their fields (point 2)."""

import unittest

from tessera import errors

FIELDS = {
    "Unreadable": ("index",),
    "InvalidValue": ("value",),
    "InvalidShape": (),
    "InvalidSelection": (),
    "TooLarge": ("limit",),
    "WrongCount": ("due", "given"),
    "BadFilter": ("name",),
    "NotAStore": (),
    "Damaged": ("address", "length"),
    "InvalidPath": ("path",),
    "NotFound": ("path",),
    "AlreadyThere": ("path",),
    "NotAGroup": ("path",),
    "NotAnArray": ("path",),
    "IntoItself": ("path",),
    "InvalidPart": (),
    "NoAttribute": ("name",),
    "InvalidDump": ("line",),
    "UnknownBatch": ("missing",),
    "InvalidExpression": (),
}


class ErrorTests(unittest.TestCase):
    def test_base_is_a_value_error(self):
        self.assertEqual(errors.TesseraError.__bases__, (ValueError,))

    def test_the_file_has_these_classes_and_no_others(self):
        found = {name for name, thing in vars(errors).items() if isinstance(thing, type)}
        self.assertEqual(found, set(FIELDS) | {"TesseraError"})

    def test_each_class_is_defined_in_the_file(self):
        for name in FIELDS:
            self.assertEqual(getattr(errors, name).__module__, "tessera.errors")

    def test_each_is_a_subclass_of_the_base_alone(self):
        for name in FIELDS:
            with self.subTest(name):
                self.assertEqual(getattr(errors, name).__bases__, (errors.TesseraError,))

    def test_none_is_a_subclass_of_another_one(self):
        for name in FIELDS:
            for other in FIELDS:
                if name != other:
                    self.assertFalse(issubclass(getattr(errors, name), getattr(errors, other)))

    def test_fields_by_position(self):
        for name, fields in FIELDS.items():
            with self.subTest(name):
                given = [f"{name}-{field}" for field in fields]
                error = getattr(errors, name)(*given)
                for field, value in zip(fields, given):
                    self.assertEqual(getattr(error, field), value)

    def test_fields_by_keyword(self):
        for name, fields in FIELDS.items():
            with self.subTest(name):
                error = getattr(errors, name)(**{field: 7 for field in fields})
                for field in fields:
                    self.assertEqual(getattr(error, field), 7)

    def test_raised_errors_are_caught_as_the_base(self):
        for name, fields in FIELDS.items():
            with self.subTest(name):
                with self.assertRaises(errors.TesseraError) as caught:
                    raise getattr(errors, name)(*[3 for _ in fields])
                self.assertIsInstance(str(caught.exception), str)
                self.assertIsInstance(caught.exception, ValueError)

    def test_integers_of_any_size_are_told(self):
        # Python itself refuses to write integers of more than 4300 digits.
        for name in ("Unreadable", "InvalidValue", "TooLarge", "WrongCount", "Damaged", "InvalidDump", "UnknownBatch"):
            fields = FIELDS[name]
            for digits in (29, 30, 31, 4300, 4301, 40000):
                for great in (10 ** digits, -(10 ** digits), 10 ** digits - 1, 1 - 10 ** digits):
                    error = getattr(errors, name)(*[great for _ in fields])
                    self.assertTrue(all([getattr(error, field) == great for field in fields]))
                    self.assertTrue(len(str(error)) < 200)
                    self.assertTrue(str(error).isascii())


if __name__ == "__main__":
    unittest.main()
