"""The errors: their fields and their bases."""

import inspect
import unittest

from nodice import errors
from nodice.errors import HandError

WITH_PART = [
    "BadNumber", "BadHeaps", "BadLine", "BadLook", "BadBoard", "BadWorld", "BadGame", "BadPaper",
    "Misfit",
]
FIELDS = {name: ("part",) for name in WITH_PART}
FIELDS["TooMany"] = ("what", "most")
FIELDS["BadText"] = ("line", "item")
VALUES = ["spot", "", None, True, 0, 10 ** 6000, -(10 ** 6000), [1, [2]], (1,), {"a": []}, b"x", 1.5]


class Errors(unittest.TestCase):
    def test_just_these(self):
        found = [name for name, value in vars(errors).items() if inspect.isclass(value)]
        self.assertEqual(sorted(found), sorted([*FIELDS, "HandError"]))

    def test_bases(self):
        self.assertEqual(HandError.__bases__, (ValueError,))
        for name in FIELDS:
            self.assertEqual(getattr(errors, name).__bases__, (HandError,))

    def test_fields_are_kept_as_passed(self):
        for name, fields in FIELDS.items():
            made = getattr(errors, name)
            for value in VALUES:
                for other in VALUES:
                    passed = (value, other)[:len(fields)]
                    by_place = made(*passed)
                    by_name = made(**dict(zip(fields, passed)))
                    for error in (by_place, by_name):
                        self.assertEqual(list(vars(error)), list(fields))
                        for field, kept in zip(fields, passed):
                            self.assertIs(getattr(error, field), kept)

    def test_they_have_a_wording(self):
        for name, fields in FIELDS.items():
            for value in VALUES:
                error = getattr(errors, name)(*[value for _ in fields])
                self.assertIsInstance(str(error), str)
                self.assertNotEqual(str(error), "")

    def test_they_are_raised_and_caught(self):
        for name, fields in FIELDS.items():
            made = getattr(errors, name)
            with self.assertRaises(HandError) as caught:
                raise made(*["x" for _ in fields])
            self.assertIs(caught.exception.__class__, made)

    def test_fields_are_needed(self):
        for name, fields in FIELDS.items():
            with self.assertRaises(TypeError):
                getattr(errors, name)()
            with self.assertRaises(TypeError):
                getattr(errors, name)(*range(len(fields) + 1))
