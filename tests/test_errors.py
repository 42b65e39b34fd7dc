"""Tests of the errors: what they derive from, take and keep."""

import unittest

from levelhues import errors
from samples import KEPT, HUGE, Case, nested, odd_tuples, odd_values

BASES = {
    errors.HueError: ValueError,
    errors.InvalidWeb: errors.HueError,
    errors.InvalidRow: errors.HueError,
    errors.InvalidOperation: errors.HueError,
    errors.ParseError: errors.HueError,
    errors.UnknownName: KeyError,
    errors.NoChain: LookupError,
    errors.InvalidNumber: RuntimeError,
    errors.TooMany: OverflowError,
    errors.NothingToUndo: IndexError,
    errors.Refused: ArithmeticError,
}


class ErrorsTest(Case):
    def test_each_is_derived_directly_from_what_is_told(self):
        for error, base in BASES.items():
            with self.subTest(error=error.__name__):
                self.assertEqual(error.__bases__, (base,))

    def test_six_are_no_hue_errors(self):
        for name in ("UnknownName", "NoChain", "InvalidNumber", "TooMany", "NothingToUndo", "Refused"):
            with self.subTest(name=name):
                self.assertFalse(issubclass(getattr(errors, name), errors.HueError))

    def test_four_take_one_argument_of_any_kind_or_none(self):
        for error in (errors.HueError, errors.InvalidWeb, errors.InvalidRow, errors.InvalidOperation):
            for arguments in [(), *[(value,) for value in any_values()]]:
                with self.subTest(error=error.__name__, arguments=len(arguments)):
                    self.assertIs(type(error(*arguments)), error)

    def test_the_others_keep_what_they_take(self):
        for error, name in KEPT.items():
            for value in any_values():
                with self.subTest(error=error.__name__):
                    made = error(value)
                    self.assertIs(type(made), error)
                    self.assertIs(getattr(made, name), value)

    def test_the_others_want_an_argument(self):
        for error in KEPT:
            with self.subTest(error=error.__name__), self.assertRaises(TypeError):
                error()

    def test_errors_can_be_caught_by_what_they_derive_from(self):
        for error, base in BASES.items():
            with self.subTest(error=error.__name__), self.assertRaises(base) as caught:
                raise error("word")
            self.assertIs(type(caught.exception), error)


def any_values():
    """Values of any kind and size."""
    return [
        0, 7, -HUGE, 10 ** 5000, "level", "a" * 10 ** 5, (0, 1), tuple(range(10 ** 4)), 2.5, b"ab", {1, 2}, object(), int,
        nested(lambda inner: {1: [inner]}, None), *odd_values(), *odd_tuples(),
    ]


if __name__ == "__main__":
    unittest.main()
