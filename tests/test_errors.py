"""The errors of the package."""

import unittest

from endlessplane.errors import (
    BadIndex, BadName, BadNumber, BadPart, BadText, NotSo, NothingToUndo, PlaneError, TooMany,
)

OF_PLANE = [
    (BadPart, "part"), (BadNumber, "number"), (BadIndex, "index"), (BadName, "name"), (NotSo, "word"),
    (BadText, "line"),
]
APART = [(TooMany, "limit", OverflowError), (NothingToUndo, "name", RuntimeError)]


class ErrorsTest(unittest.TestCase):
    def test_bases(self):
        self.assertEqual(PlaneError.__bases__, (ValueError,))
        for error, _ in OF_PLANE:
            self.assertEqual(error.__bases__, (PlaneError,))
        for error, _, base in APART:
            self.assertEqual(error.__bases__, (base,))
            self.assertFalse(issubclass(error, PlaneError))

    def test_none_is_derived_from_another_one(self):
        errors = [row[0] for row in OF_PLANE + APART]
        for one in errors:
            for other in errors:
                self.assertEqual(issubclass(one, other), one is other)

    def test_made_from_any_value(self):
        for row in OF_PLANE + APART:
            error, attribute = row[0], row[1]
            for value in (None, True, 0, -5, 10 ** 60, "word", (1, 2), [1], {}, object()):
                self.assertIs(getattr(error(value), attribute), value)
                self.assertIs(getattr(error(**{attribute: value}), attribute), value)

    def test_made_from_one_argument(self):
        for row in OF_PLANE + APART:
            with self.assertRaises(TypeError):
                row[0]()
            with self.assertRaises(TypeError):
                row[0](1, 2)
            with self.assertRaises(TypeError):
                row[0](told=1)

    def test_caught_by_base(self):
        for error, _ in OF_PLANE:
            with self.assertRaises(PlaneError):
                raise error("x")
        for error, _, base in APART:
            with self.assertRaises(base):
                raise error("x")


if __name__ == "__main__":
    unittest.main()
