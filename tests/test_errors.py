"""The heading slideyards/errors.py of DOC.md, and what [2] says of errors."""

import unittest

from slideyards import errors

FIELDS = {
    "BadText": ("column",),
    "BadLine": ("line", "column"),
    "BadNumber": ("what", "number"),
    "BadRow": ("row",),
    "BadTie": ("tie",),
    "BadRing": ("index",),
    "BadMove": ("index",),
    "BadName": ("name",),
    "NoName": ("name",),
    "TakenName": ("name",),
    "Unlike": ("what",),
    "TooMany": ("most",),
    "NotKept": ("promise", "witness"),
    "NothingToUndo": (),
    "NothingToRedo": (),
}


class ErrorsTest(unittest.TestCase):
    def made(self, name):
        values = [[name, field] for field in FIELDS[name]]
        return values, getattr(errors, name)(*values)

    def test_fields_are_kept_as_they_are(self):
        for name, fields in FIELDS.items():
            values, error = self.made(name)
            for field, value in zip(fields, values):
                self.assertIs(getattr(error, field), value, (name, field))

    def test_any_values_are_kept(self):
        for value in (None, True, 0, "x", (1, [2]), {"a": 1}, object(), 0.5):
            self.assertIs(errors.BadRow(value).row, value)
            self.assertIs(errors.NotKept(value, 1).promise, value)
            self.assertIs(errors.NotKept(1, value).witness, value)

    def test_number_of_fields(self):
        for name, fields in FIELDS.items():
            if fields:
                self.assertRaises(TypeError, getattr(errors, name))
                self.assertRaises(TypeError, getattr(errors, name), *range(len(fields) + 1))

    def test_each_derives_from_yard_error_alone(self):
        self.assertEqual(errors.YardError.__bases__, (ValueError,))
        for name in FIELDS:
            self.assertEqual(getattr(errors, name).__bases__, (errors.YardError,), name)

    def test_there_are_just_these(self):
        found = [name for name, value in vars(errors).items() if isinstance(value, type)]
        self.assertEqual(sorted(found), sorted([*FIELDS, "YardError"]))
        for name in found:
            self.assertEqual(getattr(errors, name).__module__, "slideyards.errors")

    def test_equal_to_itself_alone(self):
        for name in FIELDS:
            error, other = self.made(name)[1], self.made(name)[1]
            self.assertEqual(error, error)
            self.assertNotEqual(error, other)


if __name__ == "__main__":
    unittest.main()
