"""The examples of the document, word for word."""

import os
import unittest

import carryturns.above.lifts as lifts
import carryturns.above.towers as towers
import carryturns.base.numbers as numbers
import carryturns.base.residues as residues
import carryturns.character.characters as characters
import carryturns.count.equations as equations
import carryturns.field.fields as fields
import carryturns.period.periods as periods
import carryturns.table.tables as tables
import carryturns.total.totals as totals
import carryturns.turn.turns as turns
from tests.support import check_examples, examples_in

FIELDS = """
SEVEN = Field(7)
NINE = Field(3, 2)
THIRTEEN = Field(13)
SIXTEEN = Field(2, 4)
THIRTY_ONE = Field(31)
"""

NUMBERS = """
>>> [is_prime(2), is_prime(True), is_name("Ab"), divisors(12), prime_powers(360), common_divisor((12, -18, 0)), common_divisor(())]
[True, False, False, (1, 2, 3, 4, 6, 12), {2: 3, 3: 2, 5: 1}, 6, 0]
>>> [count_units(12), units_of(12), units_of(1), order_modulo(2, 7), order_modulo(-1, 5), order_modulo(5, 1)]
[4, (1, 5, 7, 11), (0,), 3, 2, 1]
>>> [digits_of(6, 2), digits_of(0, 3), digit_sum(511, 2), binomial_rest(7, 4, 2), binomial_rest(2, 11, 6), binomial_rest(5, 3, 4)]
[(0, 1, 1), (), 9, 6, 0, 0]
>>> order_modulo(4, 6)
raises InvalidOperation
"""

ROWS = """
>>> [row_plus(5, (1, 2), (4, 3)), row_minus(5, (1, 2), (3, 2)), row_divided(5, (1, 1, 0, 2), (2, 1)), row_common(3, (2, 0, 0, 1), (2, 0, 1))]
[(), (3,), ((4, 1, 2), (3,)), (2, 1)]
>>> [row_factors(2, (1, 1, 1, 1, 1, 1, 1)), row_factors(3, (2, 0, 0, 0, 0, 0, 1))]
[(((1, 1, 0, 1), 1), ((1, 0, 1, 1), 1)), (((1, 1), 3), ((2, 1), 3))]
>>> [least_irreducible(2, 3), least_irreducible(2, 8), least_irreducible(7, 1), count_irreducible(2, 6)]
[(1, 1, 0, 1), (1, 1, 0, 1, 1, 0, 0, 0, 1), (0, 1), 9]
>>> [is_irreducible_row(5, (1, 0, 0, 0, 1)), is_irreducible_row(3, (2,)), is_residue_row(3, (1, 0))]
[False, False, False]
>>> [row_power(2, (0, 1), 8, (1, 1, 0, 1)), row_power(7, (0, 1), 0, (3,)), row_value(7, (1, 1, 1), 2), row_roots(7, (1, 1, 1)), row_code(3, (2, 0, 1)), row_of_code(3, 11)]
[(0, 1), (), 0, (2, 4), 11, (2, 0, 1)]
>>> row_divided(5, (1, 2), ())
raises InvalidOperation
"""

FIELD = """
>>> [NINE.size, NINE.poly, NINE.generator, SIXTEEN.poly, NINE.plus(5, 7), NINE.times(4, 4), NINE.over(1, 4), NINE.opposite(4), str(NINE)]
[9, (1, 0, 1), 4, (1, 1, 0, 0, 1), 0, 6, 5, 8, 'field of 9']
>>> [NINE.log_of(2), NINE.power_of(3), NINE.power_of(-1), NINE.trace_of(4), NINE.trace_of(3), NINE.norm_of(4), SIXTEEN.trace_of(8), SIXTEEN.plus(11, 6)]
[4, 7, 5, 2, 0, 2, 1, 13]
>>> [THIRTEEN.orders, THIRTEEN.class_of(7, 3), THIRTEEN.elements_of(4, 1), opposite_class(THIRTEEN, 4), opposite_class(THIRTEEN, 12), opposite_class(SEVEN, 2), opposite_class(SIXTEEN, 15)]
[(1, 2, 3, 4, 6, 12), 2, (2, 5, 6), 2, 6, 1, 0]
>>> [SIXTEEN.lesser(2), NINE.lesser(1), SEVEN.raised(3, -1), SEVEN.raised(0, 0), is_field_size(512), is_field_size(6), is_field_size(1), 9 in NINE, len(NINE)]
[(0, 1, 6, 7), (0, 1, 2), 5, 1, True, False, False, False, 9]
>>> SEVEN.over(3, 0)
raises InvalidOperation
>>> THIRTEEN.class_of(7, 5)
raises InvalidOrder
"""

TURN = """
>>> [cyclotomic(1), cyclotomic(12), cyclotomic(15)]
[(-1, 1), (1, 0, -1, 0, 1), (1, -1, 0, 1, -1, 1, 0, -1, 1)]
>>> one, other = Turn(5, (1, 2, 0, -1)), Turn(5, (0, 1, 1, 0))
>>> [str(one), str(other), one.times(other).entries, one.turned(2).entries, one.mirrored().entries, one.norm(), one.trace(), other.is_unit()]
['1+2z-z^3 order 5', 'z+z^2 order 5', (0, 2, 4, 3), (1, -1, 2, 0), (-1, -2, -3, -2), 11, 3, True]
>>> [str(one.times(other).divided(other)), one.divided(Turn.whole(5, 2)), str(Turn.power(12, 7)), str(Turn(3, (2, -1)).lifted(12)), Turn(12, (3, 0, -1, 0)).lowered(3).entries, Turn.power(12, 1).lowered(3)]
['1+2z-z^3 order 5', None, '-z order 12', '3-z^2 order 12', (2, -1), None]
>>> [Turn.read("-2z+z^2 order 5").entries, Turn.read("0 order 2").is_zero, Turn(9, (3, 0, 0, 9, 0, 0)).content(3), Turn(9, (1, -1, 0, 0, 0, 0)).norm(), Turn(1, (-4,)).norm()]
[(0, -2, 1, 0), True, 1, 3, -4]
>>> Turn.read("1z order 5")
raises ParseError(0)
"""

CHARACTER = """
>>> one = Character(SEVEN, 3, 1)
>>> [one.value_at(3).entries, one.value_at(2).entries, one.value_at(6).entries, one.value_at(0).entries, one.sign, one.exact, str(one)]
[(0, 1), (-1, -1), (1, 0), (0, 0), 1, 3, 'character 1 of order 3 over 7']
>>> [one.times(one).number, one.raised(-1) == one.opposite(), one.widened(6).number, total_of(one).entries, total_of(Character(SEVEN, 3, 0)).entries, Character(NINE, 8, 1).sign, Character(SEVEN, 2, 1).sign]
[2, True, 2, (0, 0), (6, 0), -1, -1]
>>> [count_roots(SEVEN, 3, 6), count_roots(SEVEN, 3, 2), count_roots(SEVEN, 9, 1), count_roots(SEVEN, 4, 0), len(characters(NINE, 8))]
[3, 0, 3, 1, 8]
>>> told = class_sums(3, (2, -1, 0))
>>> [told[0].entries, told[1].entries, told[2].entries, class_values(3, told)]
[(1, 0), (3, 1), (2, -1), (2, -1, 0)]
>>> Character(SEVEN, 4, 1)
raises InvalidOrder
"""

TABLE = """
>>> [class_table(SEVEN, 3), class_table(SEVEN, 2), class_table(Field(2), 1), class_table(NINE, 4)]
[((0, 0, 1), (0, 1, 1), (1, 1, 0)), ((1, 2), (1, 1)), ((0,),), ((1, 0, 0, 0), (0, 0, 1, 1), (0, 1, 0, 1), (0, 1, 1, 0))]
>>> [class_table(THIRTEEN, 4), class_table(SIXTEEN, 3), class_table(THIRTEEN, 3)]
[((0, 1, 2, 0), (1, 1, 0, 1), (0, 1, 0, 1), (1, 0, 1, 1)), ((0, 2, 2), (2, 2, 1), (2, 1, 2)), ((0, 1, 2), (1, 2, 1), (2, 1, 1))]
>>> turned = turned_table(class_table(SEVEN, 3), 2)
>>> [turned, turning_unit(SEVEN, 3, turned), is_table_of(SEVEN, 3, turned), turning_unit(NINE, 4, class_table(NINE, 4)), turning_unit(SEVEN, 3, ((0, 0, 0),))]
[((0, 1, 0), (1, 0, 1), (0, 1, 1)), 2, False, 1, None]
>>> [lesser_table(class_table(THIRTEEN, 4), 2), class_table(THIRTEEN, 2), pairs_adding(SEVEN, 3, 0, 0), pairs_adding(THIRTEEN, 4, 1, 3), sums_hold(SEVEN, 3, turned), rules_hold(SEVEN, 3, turned)]
[((2, 3), (3, 3)), ((2, 3), (3, 3)), 0, 1, True, True]
>>> [orbits(SEVEN, 3), len(orbits(SIXTEEN, 5))]
[(((0, 0),), ((0, 1), (1, 0), (2, 2)), ((0, 2), (1, 1), (2, 0)), ((1, 2), (2, 1))), 3]
>>> class_table(SEVEN, 4)
raises InvalidOrder
"""

TOTAL = """
>>> [jacobi(SEVEN, 3, (1, 1)).entries, jacobi(SEVEN, 3, (1, 2)).entries, jacobi(SEVEN, 3, (0, 1)).entries, jacobi(SEVEN, 3, (0, 0)).entries]
[(-1, -3), (-1, 0), (-1, 0), (5, 0)]
>>> [jacobi(SEVEN, 3, (1, 1, 1)).entries, jacobi(SEVEN, 3, (1, 2, 1)).entries, jacobi(SEVEN, 3, (0, 0, 0)).entries, jacobi(THIRTEEN, 4, (1, 1)).entries, jacobi(THIRTEEN, 4, (1, 2)).entries, jacobi(NINE, 4, (1, 1)).entries]
[(1, 3), (7, 0), (31, 0), (3, -2), (-3, 2), (3, 0)]
>>> [jacobi_split(SEVEN, 3, (1, 1, 1)), jacobi_split(SEVEN, 3, (1, 0, 2, 1)), jacobi_split(THIRTEEN, 4, (1, 1, 1, 3)), jacobi_split(SEVEN, 3, (0, 0, 0))]
[(-1, ((1, 1),)), (-7, ()), (1, ((1, 1), (2, 1), (3, 3))), (31, ())]
>>> [split_value(SEVEN, 3, (-1, ((1, 1),))).entries, is_jacobi(SEVEN, 3, (1, 1), jacobi(SEVEN, 3, (2, 2))), table_by_totals(SEVEN, 3, all_totals(SEVEN, 3))]
[(1, 3), False, ((0, 0, 1), (0, 1, 1), (1, 1, 0))]
>>> jacobi(SEVEN, 3, (1, 3))
raises InvalidCharacter
"""

PERIOD = """
>>> ring, four = PeriodRing(SEVEN, 3), PeriodRing(THIRTEEN, 4)
>>> [ring.one, ring.times((1, 0, 0), (1, 0, 0)), ring.times((1, 0, 0), (0, 1, 0)), ring.matrix_of((1, 0, 0)), ring.poly, ring.trace_of((1, -1, 2))]
[(-1, -1, -1), (-2, -2, -1), (0, 1, 1), ((-2, -2, -1), (0, 1, 1), (1, 1, 0)), (-1, -2, 1, 1), -2]
>>> [four.poly, four.times((1, 0, 0, 0), (1, 0, 0, 0)), four.moved((1, 2, 0, 0), 3), four.raised((5, 0, 0, 0), 0), PeriodRing(SEVEN, 2).poly, PeriodRing(NINE, 4).poly]
[(3, -4, 2, 1, 1), (0, 1, 2, 0), (2, 0, 0, 1), (-1, -1, -1, -1), (2, 1, 1), (-2, -5, -3, 1, 1)]
>>> [discriminant(ring.poly), discriminant(four.poly), discriminant(PeriodRing(NINE, 4).poly), parts_modulo(ring, 2), parts_modulo(ring, 13), parts_modulo(four, 5), parts_modulo(four, 3), degree_told(four, 5), degree_told(four, 3)]
[49, 19773, 0, (3,), (1, 1, 1), (4,), (1, 1, 1, 1), 4, 1]
>>> [is_period_table(SEVEN, 3, ring.table), is_period_table(SEVEN, 3, ((0, 1, 0), (1, 0, 1), (0, 1, 1))), is_period_table(SEVEN, 3, ((0, 0, 0), (0, 0, 0), (0, 0, 0)))]
[True, True, False]
>>> ring.times((1, 0), (1, 0, 0))
raises InvalidPeriod
"""

EQUATION = """
>>> circle = Equation(SEVEN, ((1, 2), (1, 2)), 1)
>>> cubes = Equation(SEVEN, ((1, 3), (1, 3)), 1)
>>> [count_plainly(circle), count_by_classes(cubes), count_by_sums(cubes), cubes.exponents, cubes.order, shares_of(cubes), circle.is_solution((0, 6)), str(cubes)]
[8, 6, 6, (3, 3), 3, ((1, 1), (1, 2), (2, 1), (2, 2)), True, '1*x^3 + 1*y^3 = 1 over 7']
>>> [count_by_sums(Equation(SEVEN, ((1, 3), (1, 3), (1, 3)), 0)), count_by_sums(Equation(SEVEN, ((1, 3), (2, 3)), 1)), count_plainly(Equation(SEVEN, ((1, 5), (1, 2)), 3))]
[55, 12, 7]
>>> [count_by_sums(Equation(NINE, ((1, 4), (1, 4)), 1)), count_by_sums(Equation(THIRTEEN, ((1, 3), (1, 4)), 1))]
[24, 19]
>>> [counts_by_goal(SEVEN, ((1, 3),)), cubes.left_at((2, 3)), cubes.with_goal(0) == Equation(SEVEN, ((1, 3), (1, 3)), 0), next(solutions(circle), None)]
[(1, 3, 0, 0, 0, 0, 3), 0, True, (0, 1)]
>>> [least_number(SEVEN, 3), least_number(SEVEN, 6), least_number(NINE, 4), reach_of(NINE, 4), least_number(SIXTEEN, 3), least_number(SIXTEEN, 5), reach_of(SIXTEEN, 5)]
[3, 6, None, 1, 2, None, 2]
>>> [power_sums(SEVEN, 3, 1), power_sums(SEVEN, 3, 2)]
[(0, 1, 6), (0, 1, 2, 5, 6)]
>>> Equation(SEVEN, ((0, 2),), 1)
raises InvalidEquation
"""

ABOVE = """
>>> pair = Tower(SEVEN, 2)
>>> [pair.poly, str(pair), pair.times((0, 1), (0, 1)), pair.norm_of((0, 1)), pair.trace_of((3, 1)), pair.embedded(5)]
[(1, 0, 1), 'tower of 2 over 7', (6, 0), 1, 6, (5, 0)]
>>> CUBES = Equation(SEVEN, ((1, 3), (1, 3)), 1)
>>> [count_polynomial(CUBES), count_parts(CUBES), count_above(CUBES, 1), count_above(CUBES, 2), count_plainly_above(CUBES, 2), counts_by_polynomial(7, 2, (1, -1, 6, -13, 7), 3)]
[(1, -1, 6, -13, 7), ((1, 1, 7), (1, -2, 1)), 6, 60, 60, (6, 60, 321)]
>>> [count_parts(Equation(SEVEN, ((1, 2), (1, 3)), 1)), count_parts(Equation(NINE, ((1, 4), (1, 2)), 1)), count_polynomial(Equation(SEVEN, ((1, 2), (1, 2), (1, 2)), 1)), count_plainly_above(Equation(Field(2), ((1, 3), (1, 3)), 1), 2)]
[((1, 4, 7), (1,)), ((1, 6, 9), (1, -1)), (1, 7), 6]
>>> count_above(Equation(Field(2), ((1, 3), (1, 3)), 1), 2)
raises InvalidOperation
"""


def example_fields():
    """The names of the fields that the examples use."""
    names = {"Field": fields.Field}
    exec(FIELDS, names)
    return names


class Examples(unittest.TestCase):
    def test_numbers(self):
        self.assertEqual(len(examples_in(NUMBERS)), 4)
        check_examples(self, NUMBERS, vars(numbers))

    def test_rows(self):
        self.assertEqual(len(examples_in(ROWS)), 6)
        check_examples(self, ROWS, vars(residues))

    def test_fields(self):
        self.assertEqual(len(examples_in(FIELD)), 6)
        check_examples(self, FIELD, {**vars(fields), **example_fields()})

    def test_turns(self):
        self.assertEqual(len(examples_in(TURN)), 6)
        check_examples(self, TURN, vars(turns))

    def test_characters(self):
        self.assertEqual(len(examples_in(CHARACTER)), 7)
        check_examples(self, CHARACTER, {**vars(characters), **example_fields()})

    def test_tables(self):
        self.assertEqual(len(examples_in(TABLE)), 7)
        check_examples(self, TABLE, {**vars(tables), **example_fields()})

    def test_totals(self):
        self.assertEqual(len(examples_in(TOTAL)), 5)
        check_examples(self, TOTAL, {**vars(totals), **example_fields()})

    def test_periods(self):
        self.assertEqual(len(examples_in(PERIOD)), 6)
        check_examples(self, PERIOD, {**vars(periods), **example_fields()})

    def test_equations(self):
        self.assertEqual(len(examples_in(EQUATION)), 9)
        check_examples(self, EQUATION, {**vars(equations), **example_fields()})

    def test_fields_above(self):
        self.assertEqual(len(examples_in(ABOVE)), 6)
        names = {**vars(equations), **vars(towers), **vars(lifts), **example_fields()}
        check_examples(self, ABOVE, names)

    def test_readme(self):
        with open(os.path.join(os.path.dirname(os.path.dirname(os.path.abspath(__file__))), "README.md")) as file:
            text = file.read()
        self.assertTrue(len(examples_in(text)) > 5)
        check_examples(self, text, {})

    def test_told_generators(self):
        names = example_fields()
        told = ("SEVEN", "NINE", "THIRTEEN", "SIXTEEN", "THIRTY_ONE")
        self.assertEqual([names[name].generator for name in told], [3, 4, 2, 2, 3])

    def test_told_in_words(self):
        nine = example_fields()["NINE"]
        self.assertEqual((nine.times(4, 4), nine.raised(4, 2)), (6, 6))
        self.assertEqual((residues.row_code(2, (1, 1, 0, 1)), residues.row_code(2, (1, 0, 1, 1))), (11, 13))
        for code in range(50):
            row = residues.row_of_code(7, code)
            self.assertEqual(residues.row_divided(7, row, (3,))[1], ())


if __name__ == "__main__":
    unittest.main()
