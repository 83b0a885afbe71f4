"""The interface: the error classes, their bases and their fields."""

import unittest

from whichheld import errors
from kit import ODD_VALUES, deep_list

FIELDS = {
    "BoxError": (), "BadText": ("line",), "BadFamily": ("error",), "BadHeard": ("error",),
    "BadLies": ("lies",), "BadNumber": ("number",), "Settled": (), "NoneLeft": (), "Busy": (),
    "TooManyEdits": (), "NothingToUndo": (), "NothingToRedo": (), "BadEdits": (),
    "BadEdit": ("index",), "Rejected": ("index",),
    "NoPlace": ("place",), "NoProgram": ("index",), "NoVersion": ("version",),
}
LOOKUPS = ("NoPlace", "NoProgram", "NoVersion")


def class_of(name):
    return getattr(errors, name)


class FieldsTest(unittest.TestCase):
    def test_fields_are_the_very_objects(self):
        for name, fields in FIELDS.items():
            for value in ODD_VALUES + (deep_list(20), (None, "program"), object()):
                with self.subTest(name, value=value):
                    error = class_of(name)(*[value for _ in fields])
                    for field in fields:
                        self.assertIs(getattr(error, field), value)

    def test_fields_are_not_copied_when_raised(self):
        for name, fields in FIELDS.items():
            value = [1, {"a": []}]
            with self.subTest(name):
                with self.assertRaises(class_of(name)) as caught:
                    raise class_of(name)(*[value for _ in fields])
                for field in fields:
                    self.assertIs(getattr(caught.exception, field), value)

    def test_two_errors_keep_their_own_fields(self):
        one, other = errors.BadLies(2), errors.BadLies(3)
        self.assertEqual((one.lies, other.lies), (2, 3))

    def test_the_number_of_fields(self):
        for name, fields in FIELDS.items():
            if fields:
                with self.subTest(name):
                    self.assertRaises(TypeError, class_of(name))
                    self.assertRaises(TypeError, class_of(name), 1, 2)


class BasesTest(unittest.TestCase):
    def test_which_derives_from_which(self):
        for name in FIELDS:
            for other in FIELDS:
                with self.subTest(name, other=other):
                    wanted = name == other or (other == "BoxError" and name not in LOOKUPS)
                    self.assertIs(issubclass(class_of(name), class_of(other)), wanted)

    def test_value_errors_and_lookup_errors(self):
        for name in FIELDS:
            with self.subTest(name):
                self.assertIs(issubclass(class_of(name), ValueError), name not in LOOKUPS)
                self.assertIs(issubclass(class_of(name), LookupError), name in LOOKUPS)
                self.assertFalse(issubclass(class_of(name), (KeyError, IndexError, UnicodeError)))

    def test_there_is_no_other_error_class(self):
        found = [name for name, value in vars(errors).items() if isinstance(value, type)]
        self.assertEqual(sorted(found), sorted(FIELDS))

    def test_each_class_is_defined_in_this_file(self):
        for name in FIELDS:
            with self.subTest(name):
                self.assertEqual(class_of(name).__module__, "whichheld.errors")
                self.assertEqual(class_of(name).__name__, name)


if __name__ == "__main__":
    unittest.main()
