"""The classes of tabgrow/errors.py."""

import unittest

from tabgrow import errors
from tests.common import REFUSALS


class Classes(unittest.TestCase):
    def test_grow_error_is_a_value_error(self):
        self.assertEqual(errors.GrowError.__bases__, (ValueError,))
        self.assertEqual(errors.GrowError.__module__, "tabgrow.errors")

    def test_each_refusal_stands_under_grow_error_alone(self):
        for name in REFUSALS:
            kind = getattr(errors, name)
            self.assertEqual(kind.__bases__, (errors.GrowError,), name)
            self.assertEqual(kind.__name__, name)
            self.assertEqual(kind.__module__, "tabgrow.errors")

    def test_none_stands_under_another_one(self):
        for name in REFUSALS:
            for other in REFUSALS:
                under = issubclass(getattr(errors, name), getattr(errors, other))
                self.assertEqual(under, name == other, (name, other))

    def test_values_are_set_when_made(self):
        for name, value in REFUSALS.items():
            if value is not None:
                for number in (0, 7, 30):
                    made = getattr(errors, name)(number)
                    self.assertEqual(getattr(made, value), number, name)

    def test_those_without_a_value_are_made_and_raised(self):
        for name, value in REFUSALS.items():
            if value is None:
                with self.assertRaises(errors.GrowError):
                    raise getattr(errors, name)()


if __name__ == "__main__":
    unittest.main()
