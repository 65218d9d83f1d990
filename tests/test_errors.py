"""The error classes of gaprows/errors.py: bases and fields."""

import unittest

from gaprows import errors

FIELDS = {"BadTables": ("table", "row"), "BadSentence": ("at", "why"), "BadText": ("place",)}
NAMES = ("BadTables", "BadSentence", "BadColumn", "BadTop", "TooMany", "BadText")


class Errors(unittest.TestCase):
    def test_any_refusal_is_a_gap_error(self):
        self.assertTrue(issubclass(errors.GapError, ValueError))
        for name in NAMES:
            with self.subTest(name):
                self.assertTrue(issubclass(getattr(errors, name), errors.GapError))

    def test_none_is_under_another_one(self):
        for name in NAMES:
            for other in NAMES:
                if name != other:
                    with self.subTest(name, other=other):
                        self.assertFalse(issubclass(getattr(errors, name), getattr(errors, other)))

    def test_fields_are_set_on_each_object(self):
        worths = (7, "wide")
        for name, fields in FIELDS.items():
            with self.subTest(name):
                error = getattr(errors, name)(*worths[:len(fields)])
                self.assertEqual([getattr(error, field) for field in fields], list(worths[:len(fields)]))
                self.assertIsInstance(str(error), str)

    def test_each_class_is_defined_in_its_file(self):
        for name in NAMES + ("GapError",):
            self.assertEqual(getattr(errors, name).__module__, "gaprows.errors")


if __name__ == "__main__":
    unittest.main()
