"""Periods: [0.16] and [8.1] to [8.7], held against the rule, against complex numbers and against determinants."""

import cmath
import itertools
import math
import random
import unittest

from carryturns.base.residues import is_irreducible_row, row_factors
from carryturns.field.fields import Field, opposite_class
from carryturns.period.periods import PeriodRing, degree_told, discriminant, is_period_table, parts_modulo
from carryturns.table.tables import class_table, rules_hold, sums_hold, turned_table
from tests import plain_classes, plain_matrices
from tests.support import all_kinds, plain_integer

FIELDS = plain_classes.small_fields()
GREAT = [Field(73), Field(7, 2), Field(2, 9), Field(509), Field(3, 4), Field(97), Field(2, 6)]
PRIMES = [prime for prime in range(2, 513) if all(prime % low for low in range(2, prime))]


def product(field, order, one, other, table=None):
    """The product of two periods, by the rule of [8.1], term by term."""
    table = class_table(field, order) if table is None else table
    n, e = (field.size - 1) // order, opposite_class(field, order)
    found = [0] * order
    for i, first in enumerate(one):
        for at, second in enumerate(other):
            k = (at - i) % order
            for j in range(order):
                found[(i + j) % order] += first * second * table[k][j]
            if k == e:
                found = [entry - n * first * second for entry in found]
    return tuple(found)


def some_period(chance, order, most=9):
    """A period by chance."""
    return tuple(chance.randint(-most, most) for _ in range(order))


def single(order, index):
    """The period h(index)."""
    return tuple(int(at == index % order) for at in range(order))


def complex_periods(field, order):
    """The complex numbers that h(0), h(1), .. are: sums of roots of unity with the traces as exponents."""
    return [
        sum(cmath.exp(2j * cmath.pi * field.trace_of(element) / field.prime) for element in field.elements_of(order, at))
        for at in range(order)
    ]


def pairs_of(fields):
    """All pairs of a field and an order."""
    return [(field, order) for field in fields for order in field.orders]


class Rings(unittest.TestCase):
    def test_properties(self):
        for field, order in pairs_of(FIELDS + GREAT):
            ring = PeriodRing(field, order)
            self.assertEqual((ring.field, ring.order, len(ring)), (field, order, order))
            self.assertEqual(ring.one, (-1,) * order)
            self.assertEqual(ring.table, class_table(field, order))
            self.assertEqual([ring.single(index) for index in range(order)],
                             [single(order, index) for index in range(order)])
            self.assertEqual(str(ring), f"periods of {field.size} by {order}")

    def test_products_by_the_rule(self):
        chance = random.Random(81)
        for field, order in pairs_of(FIELDS + GREAT):
            ring = PeriodRing(field, order)
            periods = [ring.one, single(order, 0), single(order, -1), (0,) * order]
            periods += [some_period(chance, order) for _ in range(2 if order < 9 else 1)]
            for one in periods:
                for other in periods:
                    found = ring.times(one, other)
                    self.assertIs(type(found), tuple)
                    self.assertEqual(found, product(field, order, one, other))
                    self.assertEqual(found, ring.times(other, one))

    def test_products_of_complex_numbers(self):
        chance = random.Random(82)
        for field, order in pairs_of(FIELDS + GREAT):
            ring, known = PeriodRing(field, order), complex_periods(field, order)
            self.assertAlmostEqual(abs(sum(known) + 1), 0, 6)
            one, other = some_period(chance, order), some_period(chance, order)
            for number in range(0, order, 1 + order // 5):
                values = [
                    sum(entry * root for entry, root in zip(ring.moved(period, number), known))
                    for period in (one, other, ring.times(one, other))
                ]
                self.assertAlmostEqual(abs(values[0] * values[1] - values[2]), 0, 4)

    def test_ring_rules(self):
        chance = random.Random(83)
        for field, order in pairs_of(FIELDS + GREAT[:2]):
            ring = PeriodRing(field, order)
            one, other, last = [some_period(chance, order) for _ in range(3)]
            self.assertEqual(ring.times(ring.times(one, other), last), ring.times(one, ring.times(other, last)))
            self.assertEqual(ring.times(one, ring.plus(other, last)),
                             ring.plus(ring.times(one, other), ring.times(one, last)))
            self.assertEqual(ring.times(ring.one, one), one)
            total = (0,) * order
            for index in range(order):
                total = ring.plus(total, ring.single(index))
            self.assertEqual(total, ring.scaled(ring.one, -1))
            self.assertEqual(ring.times(ring.scaled(one, 7), other), ring.scaled(ring.times(one, other), 7))

    def test_moved(self):
        chance = random.Random(84)
        for field, order in pairs_of(FIELDS):
            ring = PeriodRing(field, order)
            one, other = some_period(chance, order), some_period(chance, order)
            for number in (0, 1, 2, -1, order, -order - 1, 10 ** 60 - 1, 1 - 10 ** 60):
                told = [None] * order
                for at, entry in enumerate(one):
                    told[(at + number) % order] = entry
                self.assertEqual(ring.moved(one, number), tuple(told))
                self.assertEqual(ring.moved(ring.times(one, other), number),
                                 ring.times(ring.moved(one, number), ring.moved(other, number)))
                self.assertEqual(ring.moved(ring.plus(one, other), number),
                                 ring.plus(ring.moved(one, number), ring.moved(other, number)))
                self.assertEqual(ring.poly_of(ring.moved(one, number)), ring.poly_of(one))

    def test_sums_of_moved_products(self):
        for field, order in pairs_of(FIELDS + GREAT[:2]):
            ring, many = PeriodRing(field, order), (field.size - 1) // order
            for k in range(order):
                total = (0,) * order
                for i in range(order):
                    total = ring.plus(total, ring.times(ring.single(i), ring.single((i + k) % order)))
                number = field.size * (k == opposite_class(field, order)) - many
                self.assertEqual(total, ring.scaled(ring.one, number))

    def test_powers(self):
        chance = random.Random(85)
        for field, order in pairs_of(FIELDS):
            ring, one = PeriodRing(field, order), some_period(chance, order, 3)
            power = ring.one
            for many in range(21 if order < 7 else 5):
                self.assertEqual(ring.raised(one, many), power)
                power = product(field, order, power, one)
            self.assertEqual(ring.raised((0,) * order, 0), ring.one)
            self.assertEqual(ring.raised(ring.one, 20), ring.one)

    def test_long_entries(self):
        ring = PeriodRing(Field(13), 4)
        long = (10 ** 60 - 1, 1 - 10 ** 60, 0, 5)
        self.assertEqual(ring.times(long, long), product(Field(13), 4, long, long))
        self.assertEqual(ring.plus(long, long), tuple(2 * entry for entry in long))
        self.assertEqual(ring.scaled(long, 1 - 10 ** 60), tuple((1 - 10 ** 60) * entry for entry in long))
        power = ring.one
        for _ in range(20):
            power = product(Field(13), 4, power, long)
        self.assertEqual(ring.raised(long, 20), power)
        matrix = ring.matrix_of(long)
        for number in (0, 1, -3, 10 ** 60):
            told = plain_matrices.shifted_determinant(matrix, number)
            self.assertEqual(plain_matrices.value(ring.poly_of(long), number), told)

    def test_a_ring_never_changes(self):
        ring = PeriodRing(Field(7), 3)
        for name in ("field", "order", "one", "table", "poly"):
            with self.assertRaises(AttributeError):
                setattr(ring, name, 0)
        self.assertRaises(TypeError, iter, ring)

    def test_equality(self):
        told = pairs_of(plain_classes.small_fields(11))
        for at, one in enumerate(told):
            for to, other in enumerate(told):
                self.assertIs(PeriodRing(*one) == PeriodRing(*other), at == to)
                self.assertIs(PeriodRing(*one) != PeriodRing(*other), at != to)
        for value in all_kinds():
            same = isinstance(value, PeriodRing) and (value.field.size, value.order) == (7, 3)
            self.assertIs(PeriodRing(Field(7), 3) == value, same)
            self.assertIs(PeriodRing(Field(7), 3) != value, not same)


class Polynomials(unittest.TestCase):
    def test_matrices(self):
        chance = random.Random(86)
        for field, order in pairs_of(FIELDS + GREAT[:2]):
            ring, period = PeriodRing(field, order), some_period(chance, order)
            matrix = ring.matrix_of(period)
            told = tuple(product(field, order, single(order, at), period) for at in range(order))
            self.assertEqual(repr(matrix), repr(told))
            self.assertEqual(ring.trace_of(period), sum(matrix[at][at] for at in range(order)))
            self.assertEqual(ring.trace_of(period), -sum(period))

    def test_by_determinants(self):
        chance = random.Random(87)
        for field, order in pairs_of(FIELDS + GREAT[:3]):
            ring = PeriodRing(field, order)
            self.assertEqual(ring.poly, ring.poly_of(ring.single(0)))
            for period in (ring.single(0), some_period(chance, order), ring.one, (0,) * order):
                poly = ring.poly_of(period)
                self.assertIs(type(poly), tuple)
                self.assertEqual((len(poly), poly[-1]), (order + 1, 1))
                # As many values as the degree tell a monic polynomial.
                for number in range(-(order // 2), order - order // 2)[:order if order < 9 else 3]:
                    told = plain_matrices.shifted_determinant(ring.matrix_of(period), number)
                    self.assertEqual(plain_matrices.value(poly, number), told)

    def test_by_complex_roots(self):
        for field, order in pairs_of(FIELDS + GREAT):
            if order < 10:
                poly, roots = [1], complex_periods(field, order)
                for root in roots:
                    poly = [low - root * high for low, high in zip([0] + poly, poly + [0])]
                for entry, told in zip(PeriodRing(field, order).poly, poly):
                    self.assertTrue(abs(entry - told) <= 1e-6 * max(1, abs(entry)), (field.size, order))

    def test_put_into_its_own_polynomial(self):
        chance = random.Random(88)
        for field, order in pairs_of(FIELDS):
            ring, period = PeriodRing(field, order), some_period(chance, order, 4)
            total, power = (0,) * order, ring.one
            for entry in ring.poly_of(period):
                total = ring.plus(total, tuple(entry * other for other in power))
                power = product(field, order, power, period)
            self.assertEqual(total, (0,) * order)

    def test_known_polynomials(self):
        for field in FIELDS + GREAT:
            for order in field.orders:
                self.assertEqual(PeriodRing(field, order).poly[order - 1], 1)
            self.assertEqual(PeriodRing(field, 1).poly, (1, 1))
            if field.prime > 2:
                q = field.size if (field.size - 1) // 2 % 2 == 0 else -field.size
                self.assertEqual(PeriodRing(field, 2).poly, ((1 - q) // 4, 1, 1))

    def test_irreducible_over_prime_fields(self):
        for field, order in pairs_of([Field(prime) for prime in (2, 3, 5, 7, 11, 13, 31, 37, 73, 509)]):
            ring = PeriodRing(field, order)
            self.assertNotEqual(discriminant(ring.poly), 0)
            # A prime modulo which there is one part only tells it; if the order has no such prime, the complex
            # roots are all different, and each of them is moved to each other one.
            if order < 12:
                known = complex_periods(field, order)
                for one, other in itertools.combinations(known, 2):
                    self.assertTrue(abs(one - other) > 1e-6)


class Discriminants(unittest.TestCase):
    def test_differences_of_roots(self):
        chance = random.Random(89)
        for many in range(1, 25):
            for _ in range(3):
                roots = [chance.randint(-7 - many, 7 + many) for _ in range(many)]
                told = math.prod((one - other) ** 2 for one, other in itertools.combinations(roots, 2))
                self.assertEqual(discriminant(plain_matrices.poly_of_roots(roots)), told)
            told = math.prod((one - other) ** 2 for one, other in itertools.combinations(range(many), 2))
            self.assertEqual(discriminant(plain_matrices.poly_of_roots(range(many))), told)

    def test_complex_roots(self):
        for field, order in pairs_of(FIELDS):
            if order < 7:
                roots = complex_periods(field, order)
                told = math.prod((one - other) ** 2 for one, other in itertools.combinations(roots, 2))
                found = discriminant(PeriodRing(field, order).poly)
                self.assertTrue(abs(found - told) <= 1e-4 * max(1, abs(found)), (field.size, order))

    def test_by_another_determinant(self):
        chance = random.Random(90)
        for degree in range(1, 25):
            for most in (1, 9, 10 ** 60 - 1) if degree < 12 else (9,):
                poly = tuple(chance.randint(-most, most) for _ in range(degree)) + (1,)
                self.assertEqual(discriminant(poly), plain_matrices.discriminant(poly))
            poly = (chance.randint(1, 9),) + (0,) * (degree - 1) + (1,)
            self.assertEqual(discriminant(poly), plain_matrices.discriminant(poly))

    def test_formulas(self):
        for b, c in itertools.product(range(-9, 10), repeat=2):
            self.assertEqual(discriminant((c, b, 1)), b * b - 4 * c)
            self.assertEqual(discriminant((b, c, 0, 1)), -4 * c ** 3 - 27 * b * b)
        most = 10 ** 60 - 1
        self.assertEqual([discriminant((most, 1)), discriminant((most, most, 1))], [1, most * most - 4 * most])
        self.assertEqual(discriminant((0,) * 24 + (1,)), 0)
        self.assertEqual(discriminant((-1,) + (0,) * 23 + (1,)), -24 ** 24)

    def test_longest_polynomials(self):
        chance = random.Random(91)
        for _ in range(2):
            poly = tuple(chance.randint(1 - 10 ** 60, 10 ** 60 - 1) for _ in range(24)) + (1,)
            # Roots that are moved by 1 have the same differences.
            moved = [0] * 25
            for at, entry in enumerate(poly):
                for to in range(at + 1):
                    moved[to] += entry * math.comb(at, to)
            if max(map(abs, moved)) < 10 ** 60:
                self.assertEqual(discriminant(tuple(moved)), discriminant(poly))
            modulus = 10 ** 9 + 7
            self.assertEqual(discriminant(poly) % modulus,
                             discriminant(tuple(entry % modulus for entry in poly)) % modulus)


class Parts(unittest.TestCase):
    def test_by_factors_of_rows(self):
        for field, order in pairs_of([Field(7), Field(13), Field(3, 2), Field(2, 4), Field(5, 2), Field(31), Field(73)]):
            ring = PeriodRing(field, order)
            for prime in (2, 3, 5, 7, 13, 31, 73, 101, 509):
                row = tuple(entry % prime for entry in ring.poly)
                degrees = []
                for factor, many in row_factors(prime, row):
                    self.assertIs(is_irreducible_row(prime, factor), True)
                    degrees += [len(factor) - 1] * many
                found = parts_modulo(ring, prime)
                self.assertEqual(found, tuple(sorted(degrees)))
                self.assertEqual(sum(found), order)

    def test_by_roots(self):
        for field, order in pairs_of([Field(7), Field(13), Field(3, 2), Field(31)]):
            ring = PeriodRing(field, order)
            for prime in (2, 3, 5, 7, 11, 13, 29):
                roots = [root for root in range(prime) if plain_matrices.value(ring.poly, root) % prime == 0]
                parts = parts_modulo(ring, prime)
                self.assertIs(1 in parts, len(roots) > 0)
                self.assertTrue(parts.count(1) >= len(roots))

    def test_degrees_told(self):
        for field, order in pairs_of([Field(prime) for prime in (2, 3, 5, 7, 13, 31, 37, 61, 73, 97, 241, 509)]):
            ring = PeriodRing(field, order)
            bad = discriminant(ring.poly)
            self.assertNotEqual(bad, 0)
            for prime in [low for low in PRIMES if low < 60 or low > 490]:
                if prime != field.prime:
                    told = degree_told(ring, prime)
                    # The powers of the class of the prime, until one is the class 0.
                    number = field.class_of(prime % field.prime, order)
                    least = [many for many in range(1, order + 1) if many * number % order == 0][0]
                    self.assertEqual(told, least)
                    if bad % prime != 0:
                        self.assertEqual(parts_modulo(ring, prime), (told,) * (order // told))

    def test_the_prime_of_the_field_itself(self):
        for field, order in pairs_of([Field(7), Field(13), Field(31)]):
            # Modulo the prime all roots are the same.
            self.assertEqual(parts_modulo(PeriodRing(field, order), field.prime), (1,) * order)


class Judging(unittest.TestCase):
    def plain_judgement(self, field, order, table):
        """Whether a table makes a ring, by all pairs and triples."""
        singles = [single(order, index) for index in range(order)]
        known = {
            (a, b): product(field, order, singles[a], singles[b], table) for a in range(order) for b in range(order)
        }

        def times(one, other):
            found = [0] * order
            for a, first in enumerate(one):
                for b, second in enumerate(other):
                    found = [entry + first * second * more for entry, more in zip(found, known[a, b])]
            return tuple(found)

        for a, b in known:
            if known[a, b] != known[b, a]:
                return False
            for c in range(order):
                if times(known[a, b], singles[c]) != times(singles[a], known[b, c]):
                    return False
        return all(times((-1,) * order, one) == one for one in singles)

    def test_tables_of_fields(self):
        for field, order in pairs_of(FIELDS + GREAT):
            if order <= 8:
                table = class_table(field, order)
                self.assertIs(is_period_table(field, order, table), True)
                for unit in plain_classes.units(order):
                    self.assertIs(is_period_table(field, order, turned_table(table, unit)), True)

    def test_changed_tables(self):
        chance = random.Random(92)
        for field, order in pairs_of([Field(2), Field(3), Field(5), Field(7), Field(3, 2), Field(13)]):
            if order <= 6:
                table = class_table(field, order)
                for _ in range(8):
                    rows = [list(row) for row in table]
                    for _ in range(chance.choice((1, 2, 4))):
                        rows[chance.randrange(order)][chance.randrange(order)] += chance.choice((-1, 1))
                    other = tuple(map(tuple, rows))
                    self.assertIs(is_period_table(field, order, other), self.plain_judgement(field, order, other))

    def test_all_small_tables(self):
        right = 0
        for field in (Field(3), Field(5), Field(7)):
            for entries in itertools.product(range(-2, 4), repeat=4):
                table = (entries[:2], entries[2:])
                told = self.plain_judgement(field, 2, table)
                right += told
                self.assertIs(is_period_table(field, 2, table), told)
        self.assertTrue(right > 3)
        for entry in range(-9, 10):
            self.assertIs(is_period_table(Field(7), 1, ((entry,),)), entry == 5)

    def test_other_fields(self):
        self.assertIs(is_period_table(Field(13), 3, class_table(Field(7), 3)), False)
        self.assertIs(is_period_table(Field(17), 8, class_table(Field(17), 8)), True)

    def test_any_value(self):
        for value in all_kinds():
            self.assertIs(is_period_table(Field(7), 3, value), False)
            told = type(value) is tuple and value == ((0,),) and plain_integer(value[0][0])
            self.assertIs(is_period_table(Field(2), 1, value), told)
        self.assertIs(is_period_table(Field(2), 1, ((0,),)), True)
        self.assertIs(is_period_table(Field(2), 1, ((False,),)), False)
        self.assertIs(is_period_table(Field(3), 1, ((True,),)), False)
        table = class_table(Field(7), 3)
        self.assertIs(is_period_table(Field(7), 3, list(table)), False)
        self.assertIs(is_period_table(Field(7), 3, table[:2] + (list(table[2]),)), False)
        self.assertIs(is_period_table(Field(7), 3, table + table[:1]), False)
        self.assertIs(is_period_table(Field(7), 3, table[:2]), False)
        self.assertIs(is_period_table(Field(7), 3, table[:2] + ((True, True, False),)), False)

    def test_what_is_not_true(self):
        # X ** 4 + X ** 3 - 3 X ** 2 - 5 X - 2 is (X - 2) * (X + 1) ** 3.
        poly = PeriodRing(Field(3, 2), 4).poly
        self.assertEqual(poly, plain_matrices.poly_of_roots((2, -1, -1, -1)))
        table = ((1, 0, 0), (0, 0, 2), (0, 2, 0))
        self.assertIs(sums_hold(Field(7), 3, table) and rules_hold(Field(7), 3, table), True)
        self.assertIs(is_period_table(Field(7), 3, table), False)


if __name__ == "__main__":
    unittest.main()
