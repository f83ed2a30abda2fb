"""The errors: [1.1] and [1.2]."""

import unittest

import carryturns.errors as errors
from tests.support import KEPT, all_kinds

PLAIN = (
    "InvalidPrime", "InvalidField", "InvalidElement", "InvalidOrder", "InvalidTurn", "InvalidCharacter",
    "InvalidPolynomial", "InvalidTable", "InvalidPeriod", "InvalidEquation", "InvalidWave", "InvalidPlace",
    "InvalidIdeal", "InvalidPaper", "InvalidOperation",
)
DIRECT = {
    "InvalidCount": IndexError,
    "UnknownName": KeyError,
    "NothingToUndo": RuntimeError,
    "TooMany": OverflowError,
    "Refused": ArithmeticError,
}


class Derivation(unittest.TestCase):
    def test_turn_error_is_a_value_error(self):
        self.assertEqual(errors.TurnError.__bases__, (ValueError,))

    def test_invalid_ones_are_directly_turn_errors(self):
        for name in PLAIN + ("ParseError",):
            self.assertEqual(getattr(errors, name).__bases__, (errors.TurnError,), name)

    def test_the_others_are_directly_errors_of_python(self):
        for name, base in DIRECT.items():
            self.assertEqual(getattr(errors, name).__bases__, (base,), name)
            self.assertFalse(issubclass(getattr(errors, name), errors.TurnError), name)
            self.assertFalse(issubclass(getattr(errors, name), ValueError), name)

    def test_none_is_derived_from_another_one(self):
        kinds = [getattr(errors, name) for name in PLAIN + ("ParseError",) + tuple(DIRECT)]
        for one in kinds:
            for other in kinds:
                self.assertEqual(issubclass(one, other), one is other, (one, other))

    def test_each_one_has_its_own_name_in_its_file(self):
        for name in PLAIN + ("TurnError", "ParseError") + tuple(DIRECT):
            self.assertEqual(getattr(errors, name).__name__, name)
            self.assertEqual(getattr(errors, name).__module__, "carryturns.errors")


class Keeping(unittest.TestCase):
    def test_plain_ones_take_a_message(self):
        for name in PLAIN + ("TurnError",):
            kind = getattr(errors, name)
            with self.assertRaises(ValueError) as caught:
                raise kind("some words")
            self.assertIs(type(caught.exception), kind)

    def test_any_value_is_kept(self):
        self.assertEqual(
            {kind.__name__: kept for kind, kept in KEPT.items()},
            {"InvalidCount": "value", "UnknownName": "name", "NothingToUndo": "wanted",
             "TooMany": "limit", "Refused": "reason", "ParseError": "spot"},
        )
        for kind, kept in KEPT.items():
            for value in all_kinds():
                self.assertIs(getattr(kind(value), kept), value)
                self.assertIs(getattr(kind(**{kept: value}), kept), value)

    def test_one_value_is_taken(self):
        for kind in KEPT:
            self.assertRaises(TypeError, kind)
            self.assertRaises(TypeError, kind, 1, 2)


if __name__ == "__main__":
    unittest.main()
