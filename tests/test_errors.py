"""backwardrow.errors: every class, its fields, and where it stands."""

import unittest

from backwardrow import errors
from helpers import FIELDS, HUGE, ODD

VALUES = ("letters", "", 0, -3, HUGE, True, None, 1.5, b"x", [1, [2]], (1, 2), {"a": [1]}, ODD, ValueError("x"))


class Errors(unittest.TestCase):
    def test_all_classes_are_there(self):
        own = {name for name, value in vars(errors).items() if isinstance(value, type)}
        self.assertEqual(own, set(FIELDS) | {"RowError"})

    def test_places_in_the_tree(self):
        self.assertEqual(errors.RowError.__bases__, (ValueError,))
        for name in FIELDS:
            self.assertEqual(getattr(errors, name).__bases__, (errors.RowError,), name)

    def test_base_takes_any_values(self):
        for values in ((), ("a",), (1, None, [2]), VALUES):
            with self.assertRaises(ValueError):
                raise errors.RowError(*values)

    def test_one_field(self):
        for name, fields in FIELDS.items():
            if len(fields) != 1:
                continue
            made = getattr(errors, name)
            for value in VALUES:
                self.assertIs(getattr(made(value), fields[0]), value, name)
                self.assertIs(getattr(made(**{fields[0]: value}), fields[0]), value, name)

    def test_two_fields(self):
        for name, fields in FIELDS.items():
            if len(fields) != 2:
                continue
            made = getattr(errors, name)
            first, second = fields
            for one in VALUES:
                for other in VALUES:
                    for error in (made(one, other), made(one, **{second: other}), made(**{second: other, first: one})):
                        self.assertIs(getattr(error, first), one, name)
                        self.assertIs(getattr(error, second), other, name)

    def test_nothing_has_no_field(self):
        self.assertEqual(vars(errors.Nothing()), {})

    def test_a_field_is_wanted(self):
        for name, fields in FIELDS.items():
            if fields:
                with self.assertRaises(TypeError):
                    getattr(errors, name)()
                with self.assertRaises(TypeError):
                    getattr(errors, name)(*fields, 1)

    def test_raised_and_caught(self):
        for name, fields in FIELDS.items():
            with self.assertRaises(errors.RowError) as caught:
                raise getattr(errors, name)(*fields)
            self.assertEqual(vars(caught.exception), {field: field for field in fields})


if __name__ == "__main__":
    unittest.main()
