"""The examples of the document, word for word."""

import unittest

import carryturns.base.numbers as numbers
import carryturns.base.residues as residues
import carryturns.field.fields as fields
from tests.support import check_examples, examples_in

FIELDS = """
SEVEN = Field(7)
NINE = Field(3, 2)
THIRTEEN = Field(13)
SIXTEEN = Field(2, 4)
THIRTY_ONE = Field(31)
"""

NUMBERS = """
>>> [is_prime(2), is_prime(True), is_name("Ab"), divisors(12), prime_powers(360), common_divisor((12, -18, 0)), common_divisor(())]
[True, False, False, (1, 2, 3, 4, 6, 12), {2: 3, 3: 2, 5: 1}, 6, 0]
>>> [count_units(12), units_of(12), units_of(1), order_modulo(2, 7), order_modulo(-1, 5), order_modulo(5, 1)]
[4, (1, 5, 7, 11), (0,), 3, 2, 1]
>>> [digits_of(6, 2), digits_of(0, 3), digit_sum(511, 2), binomial_rest(7, 4, 2), binomial_rest(2, 11, 6), binomial_rest(5, 3, 4)]
[(0, 1, 1), (), 9, 6, 0, 0]
>>> order_modulo(4, 6)
raises InvalidOperation
"""

ROWS = """
>>> [row_plus(5, (1, 2), (4, 3)), row_minus(5, (1, 2), (3, 2)), row_divided(5, (1, 1, 0, 2), (2, 1)), row_common(3, (2, 0, 0, 1), (2, 0, 1))]
[(), (3,), ((4, 1, 2), (3,)), (2, 1)]
>>> [row_factors(2, (1, 1, 1, 1, 1, 1, 1)), row_factors(3, (2, 0, 0, 0, 0, 0, 1))]
[(((1, 1, 0, 1), 1), ((1, 0, 1, 1), 1)), (((1, 1), 3), ((2, 1), 3))]
>>> [least_irreducible(2, 3), least_irreducible(2, 8), least_irreducible(7, 1), count_irreducible(2, 6)]
[(1, 1, 0, 1), (1, 1, 0, 1, 1, 0, 0, 0, 1), (0, 1), 9]
>>> [is_irreducible_row(5, (1, 0, 0, 0, 1)), is_irreducible_row(3, (2,)), is_residue_row(3, (1, 0))]
[False, False, False]
>>> [row_power(2, (0, 1), 8, (1, 1, 0, 1)), row_power(7, (0, 1), 0, (3,)), row_value(7, (1, 1, 1), 2), row_roots(7, (1, 1, 1)), row_code(3, (2, 0, 1)), row_of_code(3, 11)]
[(0, 1), (), 0, (2, 4), 11, (2, 0, 1)]
>>> row_divided(5, (1, 2), ())
raises InvalidOperation
"""

FIELD = """
>>> [NINE.size, NINE.poly, NINE.generator, SIXTEEN.poly, NINE.plus(5, 7), NINE.times(4, 4), NINE.over(1, 4), NINE.opposite(4), str(NINE)]
[9, (1, 0, 1), 4, (1, 1, 0, 0, 1), 0, 6, 5, 8, 'field of 9']
>>> [NINE.log_of(2), NINE.power_of(3), NINE.power_of(-1), NINE.trace_of(4), NINE.trace_of(3), NINE.norm_of(4), SIXTEEN.trace_of(8), SIXTEEN.plus(11, 6)]
[4, 7, 5, 2, 0, 2, 1, 13]
>>> [THIRTEEN.orders, THIRTEEN.class_of(7, 3), THIRTEEN.elements_of(4, 1), opposite_class(THIRTEEN, 4), opposite_class(THIRTEEN, 12), opposite_class(SEVEN, 2), opposite_class(SIXTEEN, 15)]
[(1, 2, 3, 4, 6, 12), 2, (2, 5, 6), 2, 6, 1, 0]
>>> [SIXTEEN.lesser(2), NINE.lesser(1), SEVEN.raised(3, -1), SEVEN.raised(0, 0), is_field_size(512), is_field_size(6), is_field_size(1), 9 in NINE, len(NINE)]
[(0, 1, 6, 7), (0, 1, 2), 5, 1, True, False, False, False, 9]
>>> SEVEN.over(3, 0)
raises InvalidOperation
>>> THIRTEEN.class_of(7, 5)
raises InvalidOrder
"""


def example_fields():
    """The names of the fields that the examples use."""
    names = {"Field": fields.Field}
    exec(FIELDS, names)
    return names


class Examples(unittest.TestCase):
    def test_numbers(self):
        self.assertEqual(len(examples_in(NUMBERS)), 4)
        check_examples(self, NUMBERS, vars(numbers))

    def test_rows(self):
        self.assertEqual(len(examples_in(ROWS)), 6)
        check_examples(self, ROWS, vars(residues))

    def test_fields(self):
        self.assertEqual(len(examples_in(FIELD)), 6)
        check_examples(self, FIELD, {**vars(fields), **example_fields()})

    def test_told_generators(self):
        names = example_fields()
        told = ("SEVEN", "NINE", "THIRTEEN", "SIXTEEN", "THIRTY_ONE")
        self.assertEqual([names[name].generator for name in told], [3, 4, 2, 2, 3])

    def test_told_in_words(self):
        nine = example_fields()["NINE"]
        self.assertEqual((nine.times(4, 4), nine.raised(4, 2)), (6, 6))
        self.assertEqual((residues.row_code(2, (1, 1, 0, 1)), residues.row_code(2, (1, 0, 1, 1))), (11, 13))
        for code in range(50):
            row = residues.row_of_code(7, code)
            self.assertEqual(residues.row_divided(7, row, (3,))[1], ())


if __name__ == "__main__":
    unittest.main()
