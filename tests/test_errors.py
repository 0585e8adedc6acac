"""Errors: [3]."""

import unittest

from textworkshop import errors
from textworkshop.errors import WorkshopError

FIELDS = {
    "BadText": "line column", "BadWord": "what", "BadNumber": "what number", "BadStep": "number",
    "TooMany": "what many limit", "TooHeavy": "weight", "Refused": "number", "NoTongue": "number", "BadName": "name",
    "TakenName": "name", "NoFile": "name", "NoScript": "name", "NoGuard": "name number", "Broken": "name number",
    "BadPlace": "place", "NoLine": "number", "Touched": "number", "AllLines": "name", "NoHidden": "number",
    "Unlike": "text", "Conflict": "start stop", "MayConflict": "text", "NothingNoted": "", "MixedTongues": "",
    "NothingToUndo": "", "NothingToRedo": "",
}


class ErrorsTest(unittest.TestCase):
    def test_each_error_keeps_its_fields_in_order(self):
        for name, fields in FIELDS.items():
            made = getattr(errors, name)
            values = [object(), None, [1]][:len(fields.split())]
            for error in (made(*values), made(**dict(zip(fields.split(), values)))):
                with self.subTest(name=name):
                    self.assertEqual(vars(error), dict(zip(fields.split(), values)))
                    self.assertIsInstance(error, WorkshopError)

    def test_a_wrong_number_of_fields_is_no_error_of_this_kind(self):
        for name, fields in FIELDS.items():
            many = len(fields.split())
            if many:
                with self.subTest(name=name), self.assertRaises(TypeError):
                    getattr(errors, name)(*range(many + 1))

    def test_all_derive_directly_from_the_one_error(self):
        told = {name for name, value in vars(errors).items() if isinstance(value, type)}
        self.assertEqual(told, set(FIELDS) | {"WorkshopError"})
        for name in FIELDS:
            self.assertEqual(getattr(errors, name).__bases__, (WorkshopError,))
        self.assertEqual(WorkshopError.__bases__, (ValueError,))

    def test_they_are_raised_and_caught_as_value_errors(self):
        with self.assertRaises(ValueError):
            raise errors.Conflict(1, 2)


if __name__ == "__main__":
    unittest.main()
