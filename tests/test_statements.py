"""The main statements over the whole program, [0.14] to [0.21], at fields of at most 64 elements, by several roads."""

import itertools
import unittest

from carryturns.above.lifts import (
    count_above, count_plainly_above, count_polynomial, counts_by_polynomial, jacobi_above,
)
from carryturns.base.numbers import digits_of
from carryturns.carry.carries import (
    binomial_left, carries_of, carry_row, least_carries, left_at_generator, prime_power_in,
)
from carryturns.count.equations import Equation, count_by_classes, count_by_sums, count_plainly
from carryturns.errors import InvalidOperation
from carryturns.field.fields import Field
from carryturns.ideal.ideals import ideal_of, is_maker, is_only_total, jacobi_ideal, places_in
from carryturns.mutual.squares import cube_squares, is_power_of, pair_by_total, two_squares
from carryturns.mutual.symbols import differ_by, is_near_one, symbol_over
from carryturns.period.periods import PeriodRing, degree_told, discriminant, is_period_table, parts_modulo
from carryturns.place.places import left_element, place_of_field
from carryturns.table.tables import class_table, turned_table
from carryturns.total.totals import all_totals, jacobi, table_by_totals
from carryturns.turn.turns import Turn
from carryturns.wave.waves import gauss, gauss_above, gauss_product, jacobi_by_gauss
from tests import plain_classes
from tests.support import assert_raises

PRIMES = [number for number in range(2, 65) if all(number % low for low in range(2, number))]
FIELDS = [Field(prime, degree) for prime in PRIMES for degree in range(1, 7) if prime ** degree <= 64]
RANKED = (1, 2, 3, 4, 5, 6, 7, 8, 9, 10, 12, 14, 15, 16, 18, 20, 24)


def proper_pairs(order, step=1):
    """Pairs of indices that are not 0, with a sum that is not 0."""
    return [(a, b) for a in range(1, order) for b in range(1, order) if (a + b) % order][::step]


class Statements(unittest.TestCase):
    def test_tables_and_sums_j(self):
        for field in FIELDS:
            for order in field.orders:
                totals, table = all_totals(field, order), class_table(field, order)
                self.assertEqual(table, plain_classes.table_of(field, order))
                self.assertEqual(table_by_totals(field, order, totals), table)
                for a, b in itertools.product(range(0, order, 1 + order // 6), repeat=2):
                    self.assertEqual(totals[a][b], jacobi(field, order, (a, b)))
                for a, b in proper_pairs(order, 1 + order // 3):
                    self.assertEqual(totals[a][b].times(totals[a][b].mirrored()), Turn.whole(order, field.size))

    def test_tables_and_equations(self):
        for field in FIELDS:
            for order in [order for order in field.orders if order > 1][-2:]:
                for goal in (0, 1, field.size - 1):
                    equation = Equation(field, ((1, order), (field.generator, order)), goal)
                    counts = {count_plainly(equation), count_by_classes(equation), count_by_sums(equation), count_above(equation, 1)}
                    self.assertEqual(counts, {self.count_by_table(field, order, goal)})

    def count_by_table(self, field, order, goal):
        """The number of solutions of x ** m + g * y ** m = goal, by the table alone."""
        table, shift = class_table(field, order), field.class_of(field.opposite(1), order)
        generator = 1 % order
        if goal == 0:
            # Both terms are 0, or -1 and the generator have one class.
            return 1 + (order * (field.size - 1) if shift == generator else 0)
        number = field.class_of(goal, order)
        # The classes of the two terms, divided by the goal, which add up to 1.
        pairs = table[(shift - number) % order][(generator - number) % order]
        return order * order * pairs + order * ((number == 0) + (number == generator))

    def test_fields_above(self):
        for field in FIELDS:
            for order in [order for order in field.orders if order in (2, 3, 4, 5)]:
                equation = Equation(field, ((1, order), (1, 2 if field.prime > 2 else order)), 1)
                counts = tuple(count_above(equation, many) for many in range(1, 4))
                self.assertEqual(counts, counts_by_polynomial(field.size, 2, count_polynomial(equation), 3))
                most = 3 if field.size < 12 else 2 if field.size ** 2 <= 1000 else 1
                for many in range(1, most + 1):
                    self.assertEqual(count_plainly_above(equation, many), counts[many - 1])

    def test_rings_and_polynomials(self):
        for field in FIELDS:
            for order in [order for order in field.orders if order <= 12]:
                ring = PeriodRing(field, order)
                if order <= 6:
                    self.assertTrue(is_period_table(field, order, class_table(field, order)))
                if field.degree == 1 and order <= 8:
                    for prime in (2, 3, 5, 7, 11, 13):
                        if prime != field.prime and discriminant(ring.poly) % prime:
                            degree = degree_told(ring, prime)
                            self.assertEqual(parts_modulo(ring, prime), (degree,) * (order // degree))

    def test_carries_and_powers_of_the_prime(self):
        for field in FIELDS:
            for order in field.orders:
                for a, b in proper_pairs(order, 1 + order // 4):
                    total = jacobi(field, order, (a, b))
                    self.assertEqual(prime_power_in(field, total), least_carries(field, order, a, b))
                    left = {left_at_generator(field, total), left_element(field, total), binomial_left(field, order, a, b)}
                    self.assertEqual(len(left), 1)
                    self.assertEqual(left == {0}, total in place_of_field(field, order))
                    self.assertEqual(left == {0}, carry_row(field, order, a, b)[1] > 0)

    def test_carries_and_ideals(self):
        for field in FIELDS:
            for order in [order for order in field.orders if order in RANKED]:
                for a, b in proper_pairs(order, 1 + order // 2):
                    total, made = jacobi(field, order, (a, b)), jacobi_ideal(field, order, a, b)
                    self.assertEqual(made, ideal_of(order, (total,)))
                    self.assertTrue(is_maker(made, total))
                    if made.size <= 10 ** 12:
                        for place, many in places_in(made):
                            self.assertEqual((place.prime, place.times_of(total)), (field.prime, many))

    def test_the_only_turn_number(self):
        for field in FIELDS:
            for order in [order for order in field.orders if order in (3, 5, 7)]:
                for a, b in proper_pairs(order, 3):
                    total = jacobi(field, order, (a, b))
                    near = [turned.times(Turn.power(order, many)) for turned in (total, total.mirrored(), total.opposite()) for many in range(order)]
                    fits = [turn for turn in near if is_only_total(field, order, a, b, turn)]
                    self.assertTrue(total in fits and all(turn == total for turn in fits))
                    if order == 3:
                        turns = [Turn(3, entries) for entries in itertools.product(range(-10, 11), repeat=2)]
                        self.assertEqual([turn for turn in turns if is_only_total(field, 3, a, b, turn)], [total])

    def test_gauss_sums(self):
        for field in [field for field in FIELDS if field.prime <= 19]:
            for order in [order for order in field.orders if order <= 12]:
                for a, b in proper_pairs(order, 1 + order // 3):
                    total = jacobi(field, order, (a, b))
                    self.assertEqual(jacobi_by_gauss(field, order, (a, b)), total)
                    both = gauss(field, order, (a + b) % order)
                    self.assertEqual(gauss_product(field, order, (a, b)), both.scaled(total))
                    for many in (1, 2, 3):
                        above = gauss_above(field, order, a, many).times(gauss_above(field, order, b, many))
                        other = gauss_above(field, order, (a + b) % order, many)
                        self.assertEqual(above, other.scaled(jacobi_above(field, order, (a, b), many)))

    def test_reciprocity_and_squares(self):
        for prime in PRIMES:
            if prime % 4 == 1:
                total = jacobi(Field(prime), 4, (1, 2)).opposite()
                self.assertTrue(is_near_one(total))
                self.assertEqual(pair_by_total(prime, 4), two_squares(prime))
                self.assertEqual(is_power_of(prime, 2, 4), two_squares(prime)[1] % 8 == 0)
                for other in (Turn(4, (3, 2)), Turn(4, (-1, 2)), Turn(4, (-3, 0)), Turn(4, (-7, 0))):
                    symbols = symbol_over(total, other), symbol_over(other, total)
                    if None not in symbols:
                        self.assertEqual((symbols[0] - symbols[1]) % 4, differ_by(total, other))
            if prime % 3 == 1:
                total = jacobi(Field(prime), 3, (1, 1))
                self.assertTrue(is_near_one(total))
                self.assertEqual(pair_by_total(prime, 3), cube_squares(prime))
                self.assertEqual(is_power_of(prime, 2, 3), symbol_over(Turn.whole(3, 2), total) == 0)
                self.assertEqual(is_power_of(prime, 2, 3), symbol_over(total, Turn.whole(3, 2)) == 0)

    def test_what_is_not_true(self):
        self.assertNotEqual(jacobi(Field(7), 3, (1, 2)).raised(2), Turn.whole(3, 7))
        assert_raises(self, InvalidOperation, None, count_above, Equation(Field(2), ((1, 3), (1, 3)), 1), 2)
        told = carries_of(Field(2, 3), 6, 5)
        self.assertEqual((told[0], len(digits_of(6 + 5, 2))), (1, 4))
        table = class_table(Field(7), 3)
        self.assertNotEqual(turned_table(table, 5), table)
        self.assertEqual(turned_table(table, 5), plain_classes.table_of(Field(7), 3, 5))
        one, other = Turn(4, (3, 2)), Turn(4, (-1, 2))
        self.assertTrue(is_near_one(one) and is_near_one(other))
        self.assertNotEqual(symbol_over(one, other), symbol_over(other, one))


if __name__ == "__main__":
    unittest.main()
