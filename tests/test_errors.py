"""The refusals: their one root, their fields, and none under another."""

import unittest

from rimword import errors

FIELDS = {
    "BadFloor": {"why": "twice"},
    "BadPieces": {"at": 3, "why": "rim"},
    "BadPair": {},
    "BadBox": {},
    "NoSeam": {},
    "NoTurn": {},
    "BadText": {"row": 2},
}


class Errors(unittest.TestCase):

    def test_the_root_is_a_value_error(self):
        self.assertEqual(errors.FloorError.__bases__, (ValueError,))

    def test_each_stands_under_the_root_alone(self):
        for name in FIELDS:
            self.assertEqual(getattr(errors, name).__bases__,
                             (errors.FloorError,), name)

    def test_no_other_class_is_there(self):
        classes = [name for name, value in vars(errors).items()
                   if isinstance(value, type)]
        self.assertEqual(sorted(classes), sorted(["FloorError", *FIELDS]))

    def test_each_is_defined_in_its_file(self):
        for name in ["FloorError", *FIELDS]:
            self.assertEqual(getattr(errors, name).__module__,
                             "rimword.errors")

    def test_fields_are_set_when_one_is_created(self):
        for name, fields in FIELDS.items():
            made = getattr(errors, name)(*fields.values())
            self.assertEqual(vars(made), fields, name)
            self.assertEqual(vars(getattr(errors, name)(**fields)), fields)

    def test_each_is_caught_by_the_root(self):
        for name, fields in FIELDS.items():
            with self.assertRaises(errors.FloorError):
                raise getattr(errors, name)(*fields.values())

    def test_those_without_fields_take_a_text(self):
        for name in ("FloorError", "BadPair", "BadBox", "NoSeam", "NoTurn"):
            self.assertEqual(str(getattr(errors, name)("so")), "so")


if __name__ == "__main__":
    unittest.main()
