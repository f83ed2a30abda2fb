"""Wrong arguments: each error of each call, what it keeps, and which one is first ([0.1], [0.4], [0.7])."""

import unittest

import carryturns.base.numbers as numbers
import carryturns.base.residues as residues
import carryturns.errors as errors
import carryturns.field.fields as fields
from tests.kinds import (
    A_FIELD, ANY, LONG, NATURAL, POSITIVE, Kind, Refusals, elements, orders_of, prime_to, within,
)
from tests.support import all_kinds, assert_raises, plain_integer, short_integer

FIELD = fields.Field(13)
NINE = fields.Field(3, 2)


def rows_of(prime):
    """Rows of a prime."""
    def is_right(value):
        return (
            type(value) is tuple and len(value) <= 61 and (value == () or value[-1] != 0)
            and all(plain_integer(entry) and 0 <= entry < prime for entry in value)
        )
    wrong = [(1, 0), (0, 0), (prime,), (1, prime), (-1, 1), (1,) * 62, (0,) * 61 + (1,), [1], [], "1", ("1",)]
    return Kind(errors.InvalidPolynomial, is_right, wrong, hangs=True)


MODULUS = within(1, 10000)
BASE = within(2, 1000)
PRIME = prime_to(997, [0, 1, 4, 9, 991 * 2, 999, 1000, 1009, 10 ** 9 + 7])
FIELD_PRIME = prime_to(509, [1, 4, 256, 511, 512, 521, 997])
TUPLE = Kind(
    errors.InvalidOperation,
    lambda value: type(value) is tuple and all(map(short_integer, value)),
    [(1, True), (1, "2"), (1, LONG), (False,), [1, 2], (1, (2,)), 12, "12", {1: 2}, None],
)
ROW = rows_of(5)
EXPONENT = within(1, 12)
DEGREE = within(1, 9)
ORDER = orders_of(13)
ELEMENT = elements(13)
NOT_ZERO = elements(13, zero=False)

# Each call with what its parameters take, and with right arguments.
CALLS = (
    (numbers.common_divisor, ((TUPLE, (4, 6)),)),
    (numbers.divisors, ((POSITIVE, 12),)),
    (numbers.prime_powers, ((POSITIVE, 12),)),
    (numbers.count_units, ((MODULUS, 12),)),
    (numbers.units_of, ((MODULUS, 12),)),
    (numbers.order_modulo, ((ANY, 5), (MODULUS, 12))),
    (numbers.digits_of, ((NATURAL, 5), (BASE, 2))),
    (numbers.digit_sum, ((NATURAL, 5), (BASE, 2))),
    (numbers.binomial_rest, ((PRIME, 5), (NATURAL, 9), (NATURAL, 4))),
    (residues.is_residue_row, ((PRIME, 5), (None, (1,)))),
    (residues.row_plus, ((PRIME, 5), (ROW, (1, 2)), (ROW, (3,)))),
    (residues.row_minus, ((PRIME, 5), (ROW, (1, 2)), (ROW, (3,)))),
    (residues.row_times, ((PRIME, 5), (ROW, (1, 2)), (ROW, (3,)))),
    (residues.row_divided, ((PRIME, 5), (ROW, (1, 2)), (ROW, (3,)))),
    (residues.row_common, ((PRIME, 5), (ROW, (1, 2)), (ROW, (3,)))),
    (residues.row_power, ((PRIME, 5), (ROW, (1, 2)), (NATURAL, 3), (ROW, (1, 1, 1)))),
    (residues.row_value, ((PRIME, 5), (ROW, (1, 2)), (within(0, 4), 3))),
    (residues.row_code, ((PRIME, 5), (ROW, (1, 2)))),
    (residues.row_of_code, ((PRIME, 5), (NATURAL, 30))),
    (residues.is_irreducible_row, ((PRIME, 5), (ROW, (1, 2)))),
    (residues.least_irreducible, ((PRIME, 5), (EXPONENT, 2))),
    (residues.row_factors, ((PRIME, 5), (ROW, (1, 2)))),
    (residues.count_irreducible, ((PRIME, 5), (EXPONENT, 2))),
    (residues.row_roots, ((PRIME, 5), (ROW, (1, 2)))),
    (fields.Field, ((FIELD_PRIME, 2), (DEGREE, 3))),
    (FIELD.plus, ((ELEMENT, 5), (ELEMENT, 12))),
    (FIELD.minus, ((ELEMENT, 5), (ELEMENT, 12))),
    (FIELD.times, ((ELEMENT, 5), (ELEMENT, 12))),
    (FIELD.over, ((ELEMENT, 5), (ELEMENT, 12))),
    (FIELD.opposite, ((ELEMENT, 5),)),
    (FIELD.raised, ((ELEMENT, 5), (ANY, -3))),
    (FIELD.log_of, ((NOT_ZERO, 5),)),
    (FIELD.power_of, ((ANY, 5),)),
    (FIELD.trace_of, ((ELEMENT, 5),)),
    (FIELD.norm_of, ((ELEMENT, 5),)),
    (FIELD.class_of, ((NOT_ZERO, 5), (ORDER, 4))),
    (FIELD.elements_of, ((ORDER, 4), (within(0, 3), 3))),
    (FIELD.lesser, ((within(1, 1), 1),)),
    (NINE.plus, ((elements(9), 5), (elements(9), 8))),
    (NINE.class_of, ((elements(9, zero=False), 5), (orders_of(9), 4))),
    (fields.opposite_class, ((A_FIELD, FIELD), (ORDER, 4))),
)

# Errors behind all others, each with what it keeps.
THEN = (
    (numbers.divisors, (10 ** 9 + 1,), errors.TooMany, 10 ** 9),
    (numbers.divisors, (LONG - 1,), errors.TooMany, 10 ** 9),
    (numbers.prime_powers, (10 ** 9 + 1,), errors.TooMany, 10 ** 9),
    (numbers.order_modulo, (0, 2), errors.InvalidOperation, None),
    (numbers.order_modulo, (-4, 6), errors.InvalidOperation, None),
    (numbers.order_modulo, (0, 10000), errors.InvalidOperation, None),
    (residues.row_times, (2, (1,) * 61, (0, 1)), errors.TooMany, 60),
    (residues.row_times, (997, (1,) * 31, (1,) * 32), errors.TooMany, 60),
    (residues.row_divided, (5, (1, 2), ()), errors.InvalidOperation, None),
    (residues.row_divided, (5, (), ()), errors.InvalidOperation, None),
    (residues.row_power, (5, (1, 2), 0, ()), errors.InvalidOperation, None),
    (residues.row_of_code, (2, 2 ** 61), errors.TooMany, 60),
    (residues.row_of_code, (7, LONG - 1), errors.TooMany, 60),
    (residues.least_irreducible, (11, 6), errors.TooMany, 10 ** 6),
    (residues.least_irreducible, (5, 9), errors.TooMany, 10 ** 6),
    (residues.least_irreducible, (101, 3), errors.TooMany, 10 ** 6),
    (residues.least_irreducible, (997, 12), errors.TooMany, 10 ** 6),
    (residues.row_factors, (5, ()), errors.InvalidOperation, None),
    (residues.row_roots, (5, ()), errors.InvalidOperation, None),
    (FIELD.over, (3, 0), errors.InvalidOperation, None),
    (FIELD.over, (0, 0), errors.InvalidOperation, None),
    (FIELD.raised, (0, -1), errors.InvalidOperation, None),
    (FIELD.raised, (0, 1 - LONG), errors.InvalidOperation, None),
)

# Two reasons for an error, where what is right in one place hangs on another one.
SEQUENCES = (
    (residues.row_plus, (5, (1, 0), (5,)), errors.InvalidPolynomial, None),
    (residues.row_divided, (5, (5,), ()), errors.InvalidPolynomial, None),
    (residues.row_divided, (4, (5,), ()), errors.InvalidPrime, None),
    (residues.row_times, (4, (1,) * 61, (0, 1)), errors.InvalidPrime, None),
    (residues.row_power, (5, (1, 0), -1, ()), errors.InvalidPolynomial, None),
    (residues.row_power, (5, (1, 1), -1, ()), errors.InvalidCount, -1),
    (residues.row_power, (5, (1, 1), True, (5,)), errors.InvalidCount, True),
    (residues.row_power, (5, (1, 1), 1, (5,)), errors.InvalidPolynomial, None),
    (residues.row_of_code, (1000, 2 ** 61), errors.InvalidPrime, None),
    (residues.row_of_code, (2, -1), errors.InvalidCount, -1),
    (residues.least_irreducible, (997, 13), errors.InvalidCount, 13),
    (residues.least_irreducible, (998, 13), errors.InvalidPrime, None),
    (residues.row_value, (5, (1, 0), 5), errors.InvalidPolynomial, None),
    (residues.row_value, (2, (1, 1), 2), errors.InvalidCount, 2),
    (numbers.order_modulo, (True, 6), errors.InvalidCount, True),
    (numbers.order_modulo, (4, 10001), errors.InvalidCount, 10001),
    (numbers.order_modulo, (LONG, 10001), errors.InvalidCount, LONG),
    (numbers.digits_of, (-1, 1), errors.InvalidCount, -1),
    (numbers.digits_of, (0, 1001), errors.InvalidCount, 1001),
    (numbers.binomial_rest, (1009, -1, -2), errors.InvalidPrime, None),
    (numbers.binomial_rest, (997, -1, -2), errors.InvalidCount, -1),
    (numbers.binomial_rest, (997, 1, -2), errors.InvalidCount, -2),
    (FIELD.over, (13, 0), errors.InvalidElement, None),
    (FIELD.over, (0, 13), errors.InvalidElement, None),
    (FIELD.raised, (13, True), errors.InvalidElement, None),
    (FIELD.raised, (0, LONG), errors.InvalidCount, LONG),
    (FIELD.raised, (0, -LONG), errors.InvalidCount, -LONG),
    (FIELD.class_of, (0, 5), errors.InvalidElement, None),
    (FIELD.class_of, (1, 5), errors.InvalidOrder, None),
    (FIELD.elements_of, (5, 5), errors.InvalidOrder, None),
    (FIELD.elements_of, (4, 4), errors.InvalidCount, 4),
    (fields.opposite_class, (13, 5), errors.InvalidField, None),
    (fields.opposite_class, (FIELD, 24), errors.InvalidOrder, None),
    (fields.opposite_class, (fields.Field(5, 2), 24), None, None),
    (fields.opposite_class, (fields.Field(31), 30), errors.InvalidOrder, None),
    (fields.Field, (6, 0), errors.InvalidPrime, None),
    (fields.Field, (512,), errors.InvalidPrime, None),
    (fields.Field, (True,), errors.InvalidPrime, None),
    (fields.Field, (509, 2), errors.InvalidCount, 2),
    (fields.Field, (2, 10), errors.InvalidCount, 10),
    (fields.Field, (3, 6), errors.InvalidCount, 6),
    (fields.Field, (23, 2), errors.InvalidCount, 2),
    (fields.Field, (2, True), errors.InvalidCount, True),
    (fields.Field, (2, LONG - 1), errors.InvalidCount, LONG - 1),
    (fields.Field(2, 6).lesser, (4,), errors.InvalidCount, 4),
    (fields.Field(2, 6).lesser, (0,), errors.InvalidCount, 0),
    (fields.Field(2, 6).lesser, (-1,), errors.InvalidCount, -1),
    (fields.Field(2, 6).lesser, (12,), errors.InvalidCount, 12),
    (fields.Field(2, 6).lesser, (True,), errors.InvalidCount, True),
)

# The greatest and the least of what is right.
RIGHT = (
    (numbers.divisors, (10 ** 9,)), (numbers.prime_powers, (1,)), (numbers.count_units, (10000,)),
    (numbers.units_of, (1,)), (numbers.order_modulo, (1 - LONG, 1)), (numbers.digits_of, (LONG - 1, 1000)),
    (numbers.digit_sum, (0, 2)), (numbers.binomial_rest, (997, LONG - 1, LONG - 1)),
    (numbers.common_divisor, ((LONG - 1, 1 - LONG),)),
    (residues.row_times, (997, (1,) * 31, (1,) * 31)), (residues.row_times, (2, (1,) * 61, ())),
    (residues.row_times, (2, (), (1,) * 61)), (residues.row_times, (2, (1,) * 61, (1,))),
    (residues.row_of_code, (2, 2 ** 61 - 1)), (residues.least_irreducible, (2, 12)),
    (residues.least_irreducible, (997, 2)), (residues.least_irreducible, (97, 3)),
    (residues.count_irreducible, (997, 12)), (residues.row_power, (2, (1,) * 61, LONG - 1, (1,) * 61)),
    (residues.row_value, (997, (1,), 996)), (fields.Field, (509, 1)), (fields.Field, (2, 9)),
    (FIELD.raised, (0, 0)), (FIELD.raised, (1, 1 - LONG)), (FIELD.power_of, (1 - LONG,)),
)


class FirstStages(Refusals, unittest.TestCase):
    CALLS = CALLS
    THEN = THEN
    SEQUENCES = SEQUENCES
    RIGHT = RIGHT

    def test_any_value_is_judged_under_a_right_prime(self):
        for value in all_kinds():
            self.assertIn(residues.is_residue_row(5, value), (True, False))
            assert_raises(self, errors.InvalidPrime, None, residues.is_residue_row, 6, value)


if __name__ == "__main__":
    unittest.main()
