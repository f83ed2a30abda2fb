"""Wrong arguments of the stages 8 to 10: each error, what it keeps, and which one is first ([0.4], [0.7])."""

import unittest

import carryturns.above.lifts as lifts
import carryturns.above.towers as towers
import carryturns.count.equations as equations
import carryturns.errors as errors
import carryturns.period.periods as periods
from carryturns.count.equations import Equation
from carryturns.field.fields import Field
from carryturns.period.periods import PeriodRing
from carryturns.above.towers import Tower
from carryturns.table.tables import class_table
from tests.kinds import A_FIELD, ANY, LONG, NATURAL, Kind, Refusals, elements, objects_of, orders_of, prime_to, within
from tests.support import all_kinds, assert_raises, plain_integer, raised_by, short_integer
from tests.test_refusals_turns import indices_of, tuples_of

TWO, SEVEN, NINE, THIRTEEN, GREAT = Field(2), Field(7), Field(3, 2), Field(13), Field(509)
RING = PeriodRing(SEVEN, 3)
FOUR = PeriodRing(THIRTEEN, 4)
NINTH = PeriodRing(NINE, 4)
CIRCLE = Equation(SEVEN, ((1, 2), (1, 2)), 1)
CUBES = Equation(SEVEN, ((1, 3), (1, 3)), 1)
NO_GOAL = Equation(SEVEN, ((1, 3), (1, 3)), 0)
# An exponent that does not divide 6, an order above 24, and very many shares or tuples.
ODD = Equation(SEVEN, ((1, 9), (1, 3)), 1)
WIDE = Equation(GREAT, ((1, 127), (1, 127)), 1)
MANY = Equation(Field(5, 2), ((1, 24),) * 4, 1)
SOME = Equation(Field(5, 2), ((1, 24), (1, 4)), 1)
PAIR = Tower(SEVEN, 2)


def period_of(order):
    """Periods: tuples of so many integers."""
    return tuples_of(order, errors.InvalidPeriod, short_integer, 1)


def polynomials(low, high, at):
    """Tuples of integers, with lengths within bounds, that have 1 at an index."""
    def is_right(value):
        return (
            type(value) is tuple and low <= len(value) <= high and all(map(short_integer, value)) and value[at] == 1
        )
    wrong = [
        (1,) * (low - 1), (1,) * (high + 1), [1] * low, (2,) * low, (1,) * (low - 1) + (True,) + (1,) * (1 + at),
        (True,) * low, (1, LONG, 1), (1, "1", 1), (1, None, 1), "11", 1, (1, (1,), 1),
    ]
    return Kind(errors.InvalidPolynomial, is_right, [value for value in wrong if type(value) is not tuple or value])


def is_term(value):
    """Whether a value is a term over the field of seven elements."""
    return (
        type(value) is tuple and len(value) == 2 and plain_integer(value[0]) and 1 <= value[0] <= 6
        and plain_integer(value[1]) and 1 <= value[1] <= 1000
    )


def is_share(value):
    """Whether a value is a share of CUBES."""
    return type(value) is tuple and len(value) == 2 and all(plain_integer(index) and index in (1, 2) for index in value)


TERMS = Kind(
    errors.InvalidEquation,
    lambda value: type(value) is tuple and 1 <= len(value) <= 6 and all(map(is_term, value)),
    [
        (), ((1, 3),) * 7, [(1, 3)], ([1, 3],), ((1, 3), [1, 3]), ((0, 3),), ((7, 3),), ((-1, 3),), ((1, 0),),
        ((1, 1001),), ((1, -1),), ((True, 3),), ((1, True),), ((1,),), ((1, 3, 1),), (1, 3), ((1, 3), None), "13",
        ((1, LONG),), ((LONG, 1),), (("1", 3),), ((1, "3"),), ((None, 3),), ((1, 3), (0, 3)), ({1: 3},),
    ],
    hangs=True,
)
TUPLE = tuples_of(2, errors.InvalidElement, lambda value: plain_integer(value) and 0 <= value < 7, 1)
TUPLE.wrong.extend([(1, 7), (-1, 1), (1, "1"), (1, False), (1, 1, 1)])
MEMBER = Kind(errors.InvalidElement, TUPLE.is_right, TUPLE.wrong)
AN_EQUATION = objects_of(Equation, errors.InvalidEquation, [1, str(CUBES), (SEVEN, ((1, 3),), 1), Equation])
A_RING = objects_of(PeriodRing, errors.InvalidPeriod, [SEVEN, "periods of 7 by 3", class_table(SEVEN, 3), PeriodRing])
OF_SEVEN = orders_of(7)
SHARE = Kind(errors.InvalidPaper, is_share, [
    (1,), (1, 1, 1), [1, 1], (0, 1), (1, 0), (3, 1), (1, 3), (-1, 1), (1, True), ("1", 1), (1, None), 1, ((1, 1),),
], hangs=True)
PERIOD = period_of(3)
SINGLE = within(0, 2)
PRIME = prime_to(509, [0, 1, 4, 9, 511, 512, 521, 1009])
FOLD = within(1, 12)
NUMBER = within(1, 1000)
SIZE = Kind(
    errors.InvalidCount, lambda value: plain_integer(value) and value in (2, 3, 4, 5, 7, 8, 9, 11, 13, 16, 512),
    [0, 1, 6, 10, 12, 100, 510, 511, 513, 521, 1024, -7],
)

CALLS = (
    (PeriodRing, ((A_FIELD, SEVEN), (OF_SEVEN, 3))),
    (RING.single, ((SINGLE, 2),)),
    (RING.plus, ((PERIOD, (1, 2, 3)), (PERIOD, (4, 5, 6)))),
    (RING.times, ((PERIOD, (1, 2, 3)), (PERIOD, (4, 5, 6)))),
    (RING.scaled, ((PERIOD, (1, 2, 3)), (ANY, -3))),
    (RING.moved, ((PERIOD, (1, 2, 3)), (ANY, -3))),
    (RING.raised, ((PERIOD, (1, 2, 3)), (within(0, 20), 20))),
    (RING.matrix_of, ((PERIOD, (1, 2, 3)),)),
    (RING.poly_of, ((PERIOD, (1, 2, 3)),)),
    (RING.trace_of, ((PERIOD, (1, 2, 3)),)),
    (FOUR.times, ((period_of(4), (1, 2, 3, 4)), (period_of(4), (1, 2, 3, 4)))),
    (periods.is_period_table, ((A_FIELD, SEVEN), (OF_SEVEN, 3), (None, RING.table))),
    (periods.discriminant, ((polynomials(2, 25, -1), (3, -4, 2, 1, 1)),)),
    (periods.parts_modulo, ((A_RING, FOUR), (PRIME, 5))),
    (periods.degree_told, ((A_RING, FOUR), (PRIME, 5))),
    (Equation, ((A_FIELD, SEVEN), (TERMS, ((1, 3), (6, 1000))), (elements(7), 1))),
    (CIRCLE.left_at, ((TUPLE, (2, 3)),)),
    (CIRCLE.with_goal, ((elements(7), 0),)),
    (CIRCLE.scaled, ((elements(7, zero=False), 6),)),
    (equations.count_plainly, ((AN_EQUATION, CUBES),)),
    (equations.count_by_classes, ((AN_EQUATION, CUBES),)),
    (equations.count_by_sums, ((AN_EQUATION, CUBES),)),
    (equations.shares_of, ((AN_EQUATION, CUBES),)),
    (equations.amount_of, ((AN_EQUATION, CUBES), (SHARE, (1, 2)))),
    (equations.counts_by_goal, ((A_FIELD, SEVEN), (TERMS, ((1, 3), (6, 1000))))),
    (equations.reach_of, ((A_FIELD, NINE), (NUMBER, 4))),
    (equations.least_number, ((A_FIELD, NINE), (NUMBER, 4))),
    (equations.power_sums, ((A_FIELD, NINE), (NUMBER, 4), (within(1, 60), 60))),
    (Tower, ((A_FIELD, TWO), (FOLD, 12))),
    (PAIR.plus, ((MEMBER, (1, 2)), (MEMBER, (6, 0)))),
    (PAIR.times, ((MEMBER, (1, 2)), (MEMBER, (6, 0)))),
    (PAIR.raised, ((MEMBER, (1, 2)), (NATURAL, 3))),
    (PAIR.norm_of, ((MEMBER, (1, 2)),)),
    (PAIR.trace_of, ((MEMBER, (1, 2)),)),
    (PAIR.embedded, ((elements(7), 6),)),
    (lifts.jacobi_above, ((A_FIELD, SEVEN), (OF_SEVEN, 3), (indices_of(3), (1, 2, 1)), (FOLD, 2))),
    (lifts.count_above, ((AN_EQUATION, CUBES), (FOLD, 2))),
    (lifts.count_plainly_above, ((AN_EQUATION, CUBES), (FOLD, 2))),
    (lifts.count_polynomial, ((AN_EQUATION, CUBES),)),
    (lifts.count_parts, ((AN_EQUATION, CUBES),)),
    (lifts.counts_by_polynomial, ((SIZE, 7), (within(1, 6), 2), (polynomials(1, 61, 0), (1, -1, 6)), (FOLD, 3))),
)

THEN = (
    (periods.is_period_table, (Field(37), 9, ()), errors.TooMany, 8),
    (periods.is_period_table, (Field(73), 24, class_table(Field(73), 24)), errors.TooMany, 8),
    (periods.degree_told, (NINTH, 5), errors.InvalidOperation, None),
    (periods.degree_told, (NINTH, 3), errors.InvalidOperation, None),
    (periods.degree_told, (FOUR, 13), errors.InvalidOperation, None),
    (equations.count_plainly, (Equation(GREAT, ((1, 2),) * 2, 1),), errors.TooMany, 20000),
    (equations.count_by_sums, (WIDE,), errors.TooMany, 24),
    (equations.count_by_sums, (MANY,), errors.TooMany, 20000),
    (equations.shares_of, (WIDE,), errors.TooMany, 24),
    (equations.shares_of, (MANY,), errors.TooMany, 20000),
    (equations.amount_of, (WIDE, (1, 1)), errors.TooMany, 24),
    (Tower, (TWO, 12), None, None),
    (Tower, (Field(3), 8), errors.TooMany, 4096),
    (Tower, (GREAT, 2), errors.TooMany, 4096),
    (Tower, (Field(2, 9), 12), errors.TooMany, 4096),
    (lifts.jacobi_above, (SEVEN, 3, (1, 0), 2), errors.InvalidOperation, None),
    (lifts.jacobi_above, (SEVEN, 1, (0,), 1), errors.InvalidOperation, None),
    (lifts.count_above, (ODD, 1), errors.InvalidOperation, None),
    (lifts.count_above, (WIDE, 12), errors.TooMany, 24),
    (lifts.count_above, (MANY, 12), errors.TooMany, 20000),
    (lifts.count_plainly_above, (CUBES, 5), errors.TooMany, 4096),
    (lifts.count_plainly_above, (Equation(SEVEN, ((1, 3),) * 4, 1), 2), errors.TooMany, 20000),
    (lifts.count_plainly_above, (Equation(SEVEN, ((1, 3),) * 6, 1), 5), errors.TooMany, 4096),
    (lifts.count_polynomial, (ODD,), errors.InvalidOperation, None),
    (lifts.count_polynomial, (NO_GOAL,), errors.InvalidOperation, None),
    (lifts.count_polynomial, (WIDE,), errors.TooMany, 24),
    (lifts.count_polynomial, (MANY,), errors.TooMany, 20000),
    (lifts.count_polynomial, (SOME,), errors.TooMany, 60),
    (lifts.count_parts, (ODD,), errors.InvalidOperation, None),
    (lifts.count_parts, (NO_GOAL,), errors.InvalidOperation, None),
    (lifts.count_parts, (WIDE,), errors.TooMany, 24),
    (lifts.count_parts, (MANY,), errors.TooMany, 20000),
    (lifts.count_parts, (SOME,), errors.TooMany, 60),
)

SEQUENCES = (
    (PeriodRing, (7, 5), errors.InvalidField, None),
    (PeriodRing, (SEVEN, 4), errors.InvalidOrder, None),
    (PeriodRing, (Field(31), 30), errors.InvalidOrder, None),
    (RING.single, (3,), errors.InvalidCount, 3),
    (RING.single, (True,), errors.InvalidCount, True),
    (RING.plus, ((1, 2), (1,)), errors.InvalidPeriod, None),
    (RING.scaled, ((1, 2), None), errors.InvalidPeriod, None),
    (RING.scaled, ((1, 2, 3), None), errors.InvalidCount, None),
    (RING.moved, ((1, 2, LONG), LONG), errors.InvalidPeriod, None),
    (RING.moved, ((1, 2, 3), LONG), errors.InvalidCount, LONG),
    (RING.raised, ((1, 2, True), 21), errors.InvalidPeriod, None),
    (RING.raised, ((1, 2, 3), 21), errors.InvalidCount, 21),
    (RING.raised, ((1, 2, 3), -1), errors.InvalidCount, -1),
    (RING.trace_of, ([1, 2, 3],), errors.InvalidPeriod, None),
    (RING.times, (RING.raised((10 ** 30, 0, 1), 20), (1, 0, 0)), errors.InvalidPeriod, None),
    (periods.is_period_table, (Field(37), 10, ()), errors.InvalidOrder, None),
    (periods.is_period_table, (37, 9, ()), errors.InvalidField, None),
    (periods.discriminant, ((1,),), errors.InvalidPolynomial, None),
    (periods.discriminant, ((0,) * 25 + (1,),), errors.InvalidPolynomial, None),
    (periods.discriminant, ((1, 2),), errors.InvalidPolynomial, None),
    (periods.discriminant, ((1, True),), errors.InvalidPolynomial, None),
    (periods.discriminant, ((LONG, 1),), errors.InvalidPolynomial, None),
    (periods.parts_modulo, (SEVEN, 6), errors.InvalidPeriod, None),
    (periods.parts_modulo, (RING, 521), errors.InvalidPrime, None),
    (periods.degree_told, (NINTH, 4), errors.InvalidPrime, None),
    (Equation, (SEVEN, ((0, 2),), 7), errors.InvalidEquation, None),
    (Equation, (SEVEN, ((1, 2),), 7), errors.InvalidElement, None),
    (Equation, (SEVEN, ((1, 1001),), 7), errors.InvalidEquation, None),
    (Equation, (7, ((0, 2),), 7), errors.InvalidField, None),
    (Equation, (TWO, ((2, 1),), 1), errors.InvalidEquation, None),
    (CIRCLE.scaled, (0,), errors.InvalidElement, None),
    (CIRCLE.left_at, ((1,),), errors.InvalidElement, None),
    (CIRCLE.left_at, ((1, 1, 1),), errors.InvalidElement, None),
    (CIRCLE.left_at, ([1, 1],), errors.InvalidElement, None),
    (equations.amount_of, (WIDE, (127, 1)), errors.InvalidPaper, None),
    (equations.amount_of, (WIDE, (0, 1)), errors.InvalidPaper, None),
    (equations.amount_of, (None, (0, 1)), errors.InvalidEquation, None),
    (equations.amount_of, (MANY, (1, 2, 3, 4)), None, None),
    (equations.amount_of, (NO_GOAL, (1, 1)), errors.InvalidPaper, None),
    (equations.amount_of, (NO_GOAL, (1, 2)), None, None),
    (equations.count_by_sums, (Equation(GREAT, ((1, 127),) * 6, 1),), errors.TooMany, 24),
    (equations.counts_by_goal, (7, ()), errors.InvalidField, None),
    (equations.counts_by_goal, (SEVEN, ()), errors.InvalidEquation, None),
    (equations.reach_of, (7, 0), errors.InvalidField, None),
    (equations.reach_of, (SEVEN, 0), errors.InvalidCount, 0),
    (equations.least_number, (SEVEN, 1001), errors.InvalidCount, 1001),
    (equations.power_sums, (SEVEN, 0, 0), errors.InvalidCount, 0),
    (equations.power_sums, (SEVEN, 1, 61), errors.InvalidCount, 61),
    (equations.power_sums, (SEVEN, 1, 0), errors.InvalidCount, 0),
    (Tower, (GREAT, 13), errors.InvalidCount, 13),
    (Tower, (GREAT, 0), errors.InvalidCount, 0),
    (Tower, (509, 13), errors.InvalidField, None),
    (PAIR.plus, ((1, 7), (1,)), errors.InvalidElement, None),
    (PAIR.plus, ((1, 6), (1,)), errors.InvalidElement, None),
    (PAIR.raised, ((1, 7), -1), errors.InvalidElement, None),
    (PAIR.raised, ((1, 6), -1), errors.InvalidCount, -1),
    (PAIR.raised, ((0, 0), -1), errors.InvalidCount, -1),
    (PAIR.embedded, (7,), errors.InvalidElement, None),
    (PAIR.embedded, ((1, 0),), errors.InvalidElement, None),
    (lifts.jacobi_above, (SEVEN, 3, (0,), 13), errors.InvalidCount, 13),
    (lifts.jacobi_above, (SEVEN, 3, (3,), 13), errors.InvalidCharacter, None),
    (lifts.jacobi_above, (SEVEN, 4, (0,), 13), errors.InvalidOrder, None),
    (lifts.count_above, (ODD, 13), errors.InvalidCount, 13),
    (lifts.count_above, (Equation(GREAT, ((1, 381),), 1), 1), errors.InvalidOperation, None),
    (lifts.count_above, (Equation(GREAT, ((1, 127),) * 6, 1), 1), errors.TooMany, 24),
    (lifts.count_plainly_above, (CUBES, 13), errors.InvalidCount, 13),
    (lifts.count_plainly_above, (None, 13), errors.InvalidEquation, None),
    (lifts.count_polynomial, (Equation(GREAT, ((1, 127),), 0),), errors.InvalidOperation, None),
    (lifts.count_parts, (Equation(GREAT, ((1, 127),), 0),), errors.InvalidOperation, None),
    (lifts.counts_by_polynomial, (6, 0, (), 0), errors.InvalidCount, 6),
    (lifts.counts_by_polynomial, (True, 0, (), 0), errors.InvalidCount, True),
    (lifts.counts_by_polynomial, (7, 0, (), 0), errors.InvalidCount, 0),
    (lifts.counts_by_polynomial, (7, 7, (), 0), errors.InvalidCount, 7),
    (lifts.counts_by_polynomial, (7, 6, (), 0), errors.InvalidPolynomial, None),
    (lifts.counts_by_polynomial, (7, 6, (1,) * 62, 0), errors.InvalidPolynomial, None),
    (lifts.counts_by_polynomial, (7, 6, (True,), 0), errors.InvalidPolynomial, None),
    (lifts.counts_by_polynomial, (7, 6, (2, 1), 0), errors.InvalidPolynomial, None),
    (lifts.counts_by_polynomial, (7, 6, (1, LONG), 0), errors.InvalidPolynomial, None),
    (lifts.counts_by_polynomial, (7, 6, (1,), 0), errors.InvalidCount, 0),
)

RIGHT = (
    (PeriodRing, (TWO, 1)), (PeriodRing, (Field(73), 24)), (RING.raised, ((LONG - 1, 1 - LONG, 0), 20)),
    (RING.moved, ((LONG - 1,) * 3, LONG - 1)), (RING.single, (0,)), (RING.poly_of, ((LONG - 1,) * 3,)),
    (periods.is_period_table, (Field(17), 8, None)), (periods.is_period_table, (TWO, 1, ())),
    (periods.discriminant, ((LONG - 1, 1),)), (periods.discriminant, ((LONG - 1,) * 24 + (1,),)),
    (periods.parts_modulo, (FOUR, 509)), (periods.parts_modulo, (FOUR, 13)), (periods.parts_modulo, (NINTH, 3)),
    (periods.degree_told, (PeriodRing(TWO, 1), 509)), (Equation, (TWO, ((1, 1000),) * 6, 0)),
    (Equation, (GREAT, ((508, 1),), 508)), (equations.count_plainly, (Equation(GREAT, ((1, 2),), 1),)),
    (equations.count_by_sums, (Equation(Field(5, 2), ((1, 24),) * 3, 1),)),
    (equations.count_by_classes, (Equation(GREAT, ((1, 508),) * 6, 0),)),
    (equations.counts_by_goal, (GREAT, ((1, 508),) * 6)), (equations.reach_of, (GREAT, 1000)),
    (equations.power_sums, (GREAT, 1, 1)), (Tower, (Field(2, 6), 2)), (Tower, (GREAT, 1)), (Tower, (Field(5), 5)),
    (PAIR.raised, ((0, 0), LONG - 1)), (lifts.jacobi_above, (SEVEN, 3, (2,) * 6, 12)),
    (lifts.count_above, (Equation(Field(5, 2), ((1, 24),) * 3, 0), 12)),
    (lifts.counts_by_polynomial, (512, 6, (1,) + (LONG - 1,) * 60, 12)), (lifts.counts_by_polynomial, (2, 1, (1,), 1)),
)


class CountStages(Refusals, unittest.TestCase):
    CALLS = CALLS
    THEN = THEN
    SEQUENCES = SEQUENCES
    RIGHT = RIGHT

    def test_values_are_judged_behind_the_errors(self):
        for value in all_kinds():
            self.assertIn(periods.is_period_table(SEVEN, 3, value), (True, False))
            self.assertIn(CIRCLE.is_solution(value), (True, False))
            assert_raises(self, errors.TooMany, 8, periods.is_period_table, Field(37), 9, value)
            assert_raises(self, errors.InvalidOrder, None, periods.is_period_table, SEVEN, 4, value)

    def test_generators_raise_with_their_first_result(self):
        for value in AN_EQUATION.wrong:
            steps = equations.solutions(value)
            assert_raises(self, errors.InvalidEquation, None, next, steps)
        steps = equations.solutions(Equation(GREAT, ((1, 2),) * 2, 1))
        assert_raises(self, errors.TooMany, 20000, next, steps)
        self.assertIsNone(raised_by(next, equations.solutions(CIRCLE)))


if __name__ == "__main__":
    unittest.main()
