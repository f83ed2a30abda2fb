"""Rows of residues: [2.1] to [2.7], held against plain reckoning."""

import random
import unittest

from carryturns.base.residues import (
    count_irreducible, is_irreducible_row, is_residue_row, least_irreducible, row_code, row_common, row_divided,
    row_factors, row_minus, row_of_code, row_plus, row_power, row_roots, row_times, row_value,
)
from tests import plain_rows as plain
from tests.support import all_kinds, plain_integer

SMALL = ((2, 5), (3, 3), (5, 2), (7, 2))


def some_row(chance, prime, degree):
    """A row of a degree by chance, the same in each run."""
    return tuple(chance.randrange(prime) for _ in range(degree)) + (chance.randrange(1, prime),)


def product_of(prime, last, pairs):
    """A residue times the powers of rows."""
    product = (last,)
    for row, many in pairs:
        for _ in range(many):
            product = plain.times(prime, product, row)
    return product


class Rows(unittest.TestCase):
    def test_every_kind_is_judged(self):
        for prime in (2, 3, 5, 997):
            for value in all_kinds():
                told = (
                    isinstance(value, tuple) and len(value) <= 61
                    and all(plain_integer(entry) and entry in range(prime) for entry in value)
                    and (value == () or value[-1] != 0)
                )
                self.assertIs(is_residue_row(prime, value), told, (prime, str(value)[:80]))

    def test_edges(self):
        for value in ((), (1,), (0, 1), (1,) * 61, (0,) * 60 + (1,)):
            self.assertIs(is_residue_row(2, value), True)
        for value in ((0,), (1, 0), (2,), (-1,), (True,), (1,) * 62, (0,) * 61 + (1,), [1], [], "1", "", (1, "1")):
            self.assertIs(is_residue_row(2, value), False)
        self.assertIs(is_residue_row(997, (996,)), True)
        self.assertIs(is_residue_row(997, (997,)), False)
        self.assertIs(is_residue_row(5, (False, 1)), False)

    def test_codes(self):
        for prime in (2, 3, 7, 997):
            for number in list(range(200)) + [prime ** 12, prime ** 12 - 1, 10 ** 17]:
                row = row_of_code(prime, number)
                self.assertIs(is_residue_row(prime, row), True)
                self.assertEqual(plain.code(prime, row), number)
                self.assertEqual(row_code(prime, row), number)

    def test_great_codes(self):
        self.assertEqual(row_of_code(2, 2 ** 60), (0,) * 60 + (1,))
        self.assertEqual(row_of_code(2, 2 ** 61 - 1), (1,) * 61)
        self.assertEqual(row_code(2, (1,) * 61), 2 ** 61 - 1)
        self.assertEqual(row_code(997, (996,) * 61), 997 ** 61 - 1)
        self.assertEqual(len(row_of_code(997, 10 ** 60 - 1)), 21)
        self.assertEqual(row_code(997, row_of_code(997, 10 ** 60 - 1)), 10 ** 60 - 1)
        self.assertEqual([row_code(5, ()), row_of_code(5, 0)], [0, ()])


class Reckoning(unittest.TestCase):
    def test_all_small_pairs(self):
        for prime, length in SMALL:
            rows = plain.all_rows(prime, length)
            for one in rows:
                for other in rows:
                    self.assertEqual(row_plus(prime, one, other), plain.plus(prime, one, other))
                    self.assertEqual(row_minus(prime, one, other), plain.minus(prime, one, other))
                    self.assertEqual(row_times(prime, one, other), plain.times(prime, one, other))

    def test_small_quotients(self):
        for prime, length in SMALL:
            for one in plain.all_rows(prime, length):
                for other in plain.all_rows(prime, length - 1):
                    if other:
                        self.check_quotient(prime, one, other)
                        self.assertEqual(row_divided(prime, one, other)[1], plain.rest(prime, one, other))

    def check_quotient(self, prime, one, other):
        quotient, rest = row_divided(prime, one, other)
        self.assertTrue(is_residue_row(prime, quotient) and is_residue_row(prime, rest))
        self.assertTrue(len(rest) < len(other))
        self.assertEqual(plain.plus(prime, plain.times(prime, quotient, other), rest), one)

    def test_great_rows(self):
        chance = random.Random(7)
        for prime in (2, 3, 31, 499, 997):
            for low, high in ((0, 60), (60, 0), (17, 43), (30, 30), (60, 60), (59, 60), (60, 1)):
                one, other = some_row(chance, prime, low), some_row(chance, prime, high)
                self.assertEqual(row_plus(prime, one, other), plain.plus(prime, one, other))
                self.assertEqual(row_minus(prime, one, other), plain.minus(prime, one, other))
                if low + high <= 60:
                    self.assertEqual(row_times(prime, one, other), plain.times(prime, one, other))
                self.check_quotient(prime, one, other)

    def test_empty_rows(self):
        for prime in (2, 997):
            for row in ((), (1,), (0, 1), (1,) * 61):
                self.assertEqual(row_plus(prime, row, ()), row)
                self.assertEqual(row_minus(prime, row, row), ())
                self.assertEqual([row_times(prime, row, ()), row_times(prime, (), row)], [(), ()])
                self.assertEqual(row_divided(prime, row, (1,)), (row, ()))
                if row:
                    self.assertEqual(row_divided(prime, (), row), ((), ()))

    def test_common_rows(self):
        for prime, length in ((2, 5), (3, 3), (5, 2)):
            monic = [row for row in plain.all_rows(prime, length) if row and row[-1] == 1]
            rows = plain.all_rows(prime, length)
            below = {row: [low for low in monic if plain.rest(prime, row, low) == ()] for row in rows}
            for one in rows:
                for other in rows:
                    if one == other == ():
                        told = ()
                    else:
                        told = max([low for low in below[one] if low in below[other]], key=len)
                    self.assertEqual(row_common(prime, one, other), told)

    def test_great_common_rows(self):
        shared = product_of(997, 3, (((1, 1), 2), ((7, 0, 1), 3), ((11, 1), 9)))
        one, other = plain.times(997, shared, (5, 1)), plain.times(997, shared, (6, 2))
        inverse = pow(3, -1, 997)
        self.assertEqual(row_common(997, one, other), plain.scaled(997, shared, inverse))
        self.assertEqual(row_common(997, shared, ()), plain.scaled(997, shared, inverse))
        self.assertEqual(row_common(997, (), (5,)), (1,))

    def test_powers(self):
        for prime, length in ((2, 4), (3, 3), (5, 2)):
            for row in plain.all_rows(prime, length):
                for modulus in plain.all_rows(prime, length):
                    if modulus:
                        for many in (0, 1, 2, 3, 7):
                            told = plain.power(prime, row, many, modulus)
                            self.assertEqual(row_power(prime, row, many, modulus), told)

    def test_great_powers(self):
        modulus = least_irreducible(3, 12)
        self.assertEqual(row_power(3, (0, 1), 3 ** 12, modulus), (0, 1))
        self.assertEqual(row_power(3, (1, 2, 1), 3 ** 12 - 1, modulus), (1,))
        self.assertEqual(row_power(3, (1, 2, 1), (3 ** 12 - 1) * 10 ** 50 + 2, modulus), (1, 1, 0, 1, 1))
        self.assertEqual(row_power(2, (0, 1), 10 ** 60 - 1, (1,) + (0,) * 59 + (1,)), (0,) * 39 + (1,))
        self.assertEqual(row_power(997, (), 0, (1, 1)), (1,))
        self.assertEqual(row_power(997, (), 10 ** 60 - 1, (1, 1)), ())
        self.assertEqual(row_power(997, (0, 1), 10 ** 60 - 1, (5,)), ())

    def test_values_and_roots(self):
        for prime, length in SMALL:
            for row in plain.all_rows(prime, length):
                values = [row_value(prime, row, residue) for residue in range(prime)]
                self.assertEqual(values, [plain.value(prime, row, residue) for residue in range(prime)])
                if row:
                    told = tuple(residue for residue in range(prime) if values[residue] == 0)
                    self.assertEqual(row_roots(prime, row), told)

    def test_great_values_and_roots(self):
        chance = random.Random(8)
        row = some_row(chance, 997, 60)
        for residue in (0, 1, 2, 500, 996):
            self.assertEqual(row_value(997, row, residue), plain.value(997, row, residue))
        known = tuple(sorted(chance.sample(range(997), 60)))
        self.assertEqual(row_roots(997, product_of(997, 5, [((-root % 997, 1), 1) for root in known])), known)
        self.assertEqual(row_roots(2, (0, 0, 1)), (0,))
        self.assertEqual(row_roots(997, (4,)), ())
        self.assertEqual(row_value(997, (), 996), 0)


class Factors(unittest.TestCase):
    def test_irreducible_rows(self):
        for prime, degree in ((2, 9), (3, 6), (5, 4), (7, 3), (11, 2), (31, 2)):
            for this, known in plain.irreducible_rows(prime, degree).items():
                found = [row for row in plain.monic_rows(prime, this) if is_irreducible_row(prime, row)]
                self.assertEqual(found, known)
                self.assertEqual(count_irreducible(prime, this), len(known))
                self.assertEqual(least_irreducible(prime, this), known[0])
                for row in known[:9]:
                    for factor in range(1, prime):
                        self.assertIs(is_irreducible_row(prime, plain.scaled(prime, row, factor)), True)

    def test_no_irreducible_rows(self):
        for row in ((), (1,), (4,), (0, 0, 1), (4, 0, 1), (1, 2, 1)):
            self.assertIs(is_irreducible_row(5, row), False, row)
        for row in ((0, 1), (3, 1), (3, 2), (2, 0, 1)):
            self.assertIs(is_irreducible_row(5, row), True, row)

    def test_great_irreducible_rows(self):
        # By the theory of cyclotomic fields: 2 makes all units modulo 61, and 3 all modulo 43 and 31.
        self.assertIs(is_irreducible_row(2, (1,) * 61), True)
        self.assertIs(is_irreducible_row(3, (1,) * 43), True)
        self.assertIs(is_irreducible_row(3, (1,) * 31), True)
        self.assertIs(is_irreducible_row(3, (1,) * 61), False)
        # By Artin and Schreier: X ** p - X - 1.
        self.assertIs(is_irreducible_row(59, (58, 58) + (0,) * 57 + (1,)), True)
        self.assertIs(is_irreducible_row(59, (0, 58) + (0,) * 57 + (1,)), False)
        # 7 is no cube modulo 997, where each integer is a fifth power.
        self.assertIs(is_irreducible_row(997, (990,) + (0,) * 2 + (1,)), True)
        self.assertIs(is_irreducible_row(997, (990,) + (0,) * 4 + (1,)), False)

    def test_least_ones_of_great_degrees(self):
        for prime, degree in ((2, 12), (3, 12), (5, 8), (7, 7), (97, 3), (991, 2), (997, 1), (997, 2)):
            row = least_irreducible(prime, degree)
            self.assertEqual((len(row), row[-1]), (degree + 1, 1))
            self.assertEqual(row_factors(prime, row), ((row, 1),))
            for lower in range(prime ** degree, row_code(prime, row)):
                self.assertFalse(is_irreducible_row(prime, row_of_code(prime, lower)))

    def test_counts(self):
        for prime in (2, 3, 31, 997):
            self.assertEqual(count_irreducible(prime, 1), prime)
            for degree in range(1, 13):
                parts = [part for part in range(1, degree + 1) if degree % part == 0]
                self.assertEqual(sum(part * count_irreducible(prime, part) for part in parts), prime ** degree)
        self.assertEqual(count_irreducible(997, 2), 996 * 997 // 2)
        self.assertEqual([count_irreducible(2, degree) for degree in range(1, 13)],
                         [2, 1, 2, 3, 6, 9, 18, 30, 56, 99, 186, 335])

    def test_product_of_all_irreducible_rows(self):
        for prime, degree in ((2, 1), (2, 2), (2, 3), (2, 4), (2, 5), (3, 1), (3, 2), (3, 3), (5, 2), (7, 1), (59, 1)):
            size = prime ** degree
            row = (0, prime - 1) + (0,) * (size - 2) + (1,)
            parts = [part for part in range(1, degree + 1) if degree % part == 0]
            factors = row_factors(prime, row)
            self.assertTrue(all(many == 1 and len(factor) - 1 in parts for factor, many in factors))
            self.assertEqual(len(factors), sum(count_irreducible(prime, part) for part in parts))
            self.assertEqual(product_of(prime, 1, factors), row)

    def check_factors(self, prime, row):
        factors = row_factors(prime, row)
        self.assertIs(type(factors), tuple)
        codes = [plain.code(prime, factor) for factor, _ in factors]
        self.assertEqual(codes, sorted(set(codes)))
        self.assertEqual(product_of(prime, row[-1], factors), row)
        for factor, many in factors:
            self.assertTrue(many >= 1 and factor[-1] == 1)
            self.assertIs(is_irreducible_row(prime, factor), True)

    def test_small_factors(self):
        for prime, length in ((2, 9), (3, 6), (5, 4), (7, 3), (23, 2)):
            known = {row for rows in plain.irreducible_rows(prime, length - 1).values() for row in rows}
            for row in plain.all_rows(prime, length):
                if row:
                    self.check_factors(prime, row)
                    self.assertTrue(all(factor in known for factor, _ in row_factors(prime, row)))

    def test_factors_by_chance(self):
        chance = random.Random(9)
        for prime in (2, 3, 5, 13, 101, 997):
            for degree in (8, 15, 30, 45, 60):
                for _ in range(3):
                    self.check_factors(prime, some_row(chance, prime, degree))

    def test_known_factors(self):
        one, two, three = (1, 1, 0, 1), (1, 0, 1, 1), (1, 1)
        for many in ((1, 2, 3), (4, 4, 4), (8, 0, 1), (16, 1, 0), (2, 6, 12), (0, 0, 60), (0, 20, 0), (5, 10, 14)):
            pairs = [pair for pair in zip((three, one, two), (many[2], many[0], many[1])) if pair[1]]
            self.assertEqual(row_factors(2, product_of(2, 1, pairs)), tuple(pairs))

    def test_many_known_factors(self):
        chance = random.Random(10)
        roots = sorted(chance.sample(range(1, 997), 60), reverse=True)
        linear = tuple(((997 - root, 1), 1) for root in roots)
        self.assertEqual(row_factors(997, product_of(997, 9, linear)), linear)
        squares = {number * number % 997 for number in range(1, 997)}
        rest = [number for number in range(1, 997) if 997 - number not in squares][:30]
        quadratic = tuple(((number, 0, 1), 1) for number in rest)
        self.assertEqual(row_factors(997, product_of(997, 996, quadratic)), quadratic)
        self.assertEqual(row_factors(59, (1,) + (0,) * 58 + (1,)), (((1, 1), 59),))
        self.assertEqual(row_factors(59, (0, 1) + (0,) * 58 + (1,)),
                         row_factors(59, row_times(59, (0, 1), (1,) + (0,) * 58 + (1,))))
        self.assertEqual(row_factors(2, (0,) * 60 + (1,)), (((0, 1), 60),))

    def test_rows_of_the_degree_zero(self):
        for prime in (2, 3, 997):
            for last in {1, prime - 1}:
                self.assertEqual(row_factors(prime, (last,)), ())

    def test_what_is_not_true(self):
        self.assertEqual(row_roots(2, (1, 0, 1, 0, 1)), ())
        self.assertIs(is_irreducible_row(2, (1, 0, 1, 0, 1)), False)
        values = [row_value(3, (0, 1), residue) for residue in range(3)]
        self.assertEqual(values, [row_value(3, (0, 0, 0, 1), residue) for residue in range(3)])


if __name__ == "__main__":
    unittest.main()
