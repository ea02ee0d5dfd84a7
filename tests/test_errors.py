"""wantway.errors: WantError and all refusals right under it."""

import unittest

from wantway import errors

OF_A_TEXT = ["NoKinds", "NoWorth", "NoAsking", "NoPart", "NoMost", "NoMore", "NoCell"]
WITH_FIELDS = {
    "NoBook": ["number", "place"],
    "Falling": ["one", "other"],
    "Torn": ["row"],
    "NoNote": ["number"],
    "NoRows": ["number"],
    "NoSheet": ["number"],
}


class ErrorsTest(unittest.TestCase):
    def test_want_error_is_right_under_value_error(self):
        self.assertEqual(errors.WantError.__bases__, (ValueError,))

    def test_each_is_right_under_want_error(self):
        for name in OF_A_TEXT + list(WITH_FIELDS):
            self.assertEqual(getattr(errors, name).__bases__, (errors.WantError,), name)

    def test_there_are_no_others(self):
        found = [name for name, thing in vars(errors).items() if isinstance(thing, type)]
        self.assertEqual(sorted(found), sorted(["WantError"] + OF_A_TEXT + list(WITH_FIELDS)))

    def test_made_of_a_text(self):
        for name in OF_A_TEXT:
            self.assertEqual(str(getattr(errors, name)("why it is so")), "why it is so")

    def test_made_with_fields(self):
        values = [(0, None), 7]
        for name, fields in WITH_FIELDS.items():
            error = getattr(errors, name)(*values[: len(fields)])
            self.assertEqual([getattr(error, field) for field in fields], values[: len(fields)])
            self.assertIsInstance(str(error), str)


if __name__ == "__main__":
    unittest.main()
