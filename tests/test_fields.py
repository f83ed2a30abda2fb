"""Fields: [0.5], [0.8] to [0.10] and [3.1] to [3.4], held against plain reckoning."""

import random
import unittest

from carryturns.field.fields import Field, is_field_size, opposite_class
from tests import plain_rows as plain
from tests.support import all_kinds, plain_integer

PRIMES = [number for number in range(2, 513) if all(number % low for low in range(2, number))]
SIZES = sorted(
    (prime ** degree, prime, degree) for prime in PRIMES for degree in range(1, 10) if prime ** degree <= 512
)
SMALL = [told for told in SIZES if told[0] <= 32]
MIDDLE = [told for told in SIZES if 32 < told[0] <= 128]
GREAT = [told for told in SIZES if told[0] in (243, 256, 289, 343, 361, 499, 503, 509, 512)]


def least_polynomial(prime, degree):
    """The first monic row of a degree that no monic row of a lower degree above 0 divides."""
    lower = [row for low in range(1, degree // 2 + 1) for row in plain.monic_rows(prime, low)]
    for row in plain.monic_rows(prime, degree):
        if all(plain.rest(prime, row, less) != () for less in lower):
            return row


class Plain:
    """A field whose elements are reckoned with as polynomials."""

    def __init__(self, prime, degree):
        self.prime, self.degree, self.size = prime, degree, prime ** degree
        self.poly = (0, 1) if degree == 1 else least_polynomial(prime, degree)
        self.rows = plain.all_rows(prime, degree)
        self.codes = {row: code for code, row in enumerate(self.rows)}
        for code in range(1, self.size):
            powers = self.powers(code)
            if len(powers) == self.size - 1:
                self.generator, self.powers_of_generator = code, powers
                break
        self.logs = {element: log for log, element in enumerate(self.powers_of_generator)}

    def plus(self, one, other):
        return self.codes[plain.plus(self.prime, self.rows[one], self.rows[other])]

    def minus(self, one, other):
        return self.codes[plain.minus(self.prime, self.rows[one], self.rows[other])]

    def times(self, one, other):
        product = plain.times(self.prime, self.rows[one], self.rows[other])
        return self.codes[plain.rest(self.prime, product, self.poly)]

    def powers(self, element):
        """The different powers of an element other than 0, from 1 on."""
        found, power = [1], element
        while power != 1:
            found.append(power)
            power = self.times(power, element)
        return found

    def raised(self, element, many):
        power = 1
        for _ in range(many):
            power = self.times(power, element)
        return power

    def conjugates(self, element):
        """The element, raised to 1, p, p ** 2, .., below q."""
        found = []
        for _ in range(self.degree):
            found.append(element)
            element = self.raised(element, self.prime)
        return found


class Sizes(unittest.TestCase):
    def test_all_of_them(self):
        sizes = [size for size, _, _ in SIZES]
        for number in range(-5, 1100):
            self.assertIs(is_field_size(number), number in sizes, number)

    def test_edges(self):
        self.assertEqual([is_field_size(509), is_field_size(512), is_field_size(513)], [True, True, False])
        self.assertEqual([is_field_size(1), is_field_size(2), is_field_size(0)], [False, True, False])
        for size in (521, 529, 625, 729, 1024, 2 ** 61, 10 ** 60 - 1):
            self.assertIs(is_field_size(size), False)

    def test_every_kind_is_judged(self):
        for value in all_kinds():
            self.assertIs(is_field_size(value), plain_integer(value) and value in (2, 3, 4, 7), value)


class Properties(unittest.TestCase):
    def test_all_fields(self):
        for size, prime, degree in SIZES:
            field = Field(prime, degree)
            self.assertEqual((field.prime, field.degree, field.size, len(field)), (prime, degree, size, size))
            self.assertEqual(str(field), f"field of {size}")
            orders = tuple(order for order in range(1, 25) if (size - 1) % order == 0)
            self.assertEqual(field.orders, orders)
            self.assertEqual(list(field), list(range(size)))
            powers = [field.power_of(many) for many in range(size - 1)]
            self.assertEqual(sorted(powers), list(range(1, size)))
            self.assertEqual(powers[0], 1)

    def test_polynomials_and_generators(self):
        for size, prime, degree in SMALL + MIDDLE + GREAT:
            field, told = Field(prime, degree), Plain(prime, degree)
            self.assertEqual(field.poly, told.poly)
            self.assertEqual(field.generator, told.generator)
            self.assertEqual([field.power_of(many) for many in range(size - 1)], told.powers_of_generator)

    def test_degree_one(self):
        for prime in PRIMES:
            self.assertEqual(Field(prime).poly, (0, 1))
            self.assertEqual(Field(prime), Field(prime, 1))
        self.assertEqual([Field(2).generator, Field(3).generator, Field(2).orders], [1, 2, (1,)])

    def test_known_ones(self):
        self.assertEqual(Field(2, 8).poly, (1, 1, 0, 1, 1, 0, 0, 0, 1))
        self.assertEqual(Field(2, 8).generator, 3)
        self.assertEqual([Field(2, 9).size, Field(509).size, Field(7, 3).size, Field(19, 2).size],
                         [512, 509, 343, 361])

    def test_a_field_never_changes(self):
        field = Field(3, 2)
        for name in ("prime", "degree", "size", "generator", "poly", "orders"):
            value = getattr(field, name)
            with self.assertRaises(AttributeError):
                setattr(field, name, 5)
            self.assertEqual(getattr(field, name), value)
        for value in (field.poly, field.orders, field.elements_of(2, 1), field.lesser(1)):
            self.assertIs(type(value), tuple)

    def test_members(self):
        for field in (Field(2), Field(3, 2), Field(2, 4), Field(509)):
            for value in all_kinds():
                told = plain_integer(value) and 0 <= value < field.size
                self.assertIs(value in field, told, value)
            self.assertIs(field.size in field, False)
            self.assertIs(field.size - 1 in field, True)
            self.assertIs(True in field, False)

    def test_iterating(self):
        field = Field(3, 2)
        pairs = [(one, other) for one in field for other in field]
        self.assertEqual(pairs, [(one, other) for one in range(9) for other in range(9)])
        steps = iter(field)
        self.assertEqual([next(steps), next(steps)], [0, 1])
        self.assertEqual(list(field), list(range(9)))

    def test_equality(self):
        fields = [Field(prime, degree) for _, prime, degree in SIZES]
        again = [Field(prime, degree) for _, prime, degree in SIZES]
        for at, one in enumerate(fields):
            for to, other in enumerate(again):
                self.assertIs(one == other, at == to)
                self.assertIs(one != other, at != to)
        nine = Field(3, 2)
        for value in all_kinds():
            told = isinstance(value, Field) and value.size == 9
            self.assertIs(nine == value, told)
            self.assertIs(nine != value, not told)
        self.assertIs(nine == 9, False)


class Reckoning(unittest.TestCase):
    def check_pair(self, field, told, one, other):
        self.assertEqual(field.plus(one, other), told.plus(one, other))
        self.assertEqual(field.minus(one, other), told.minus(one, other))
        product = told.times(one, other)
        self.assertEqual(field.times(one, other), product)
        if other != 0:
            self.assertEqual(field.over(product, other), one)

    def test_all_small_pairs(self):
        for _, prime, degree in SMALL:
            field, told = Field(prime, degree), Plain(prime, degree)
            for one in field:
                for other in field:
                    self.check_pair(field, told, one, other)

    def test_great_pairs(self):
        chance = random.Random(3)
        for size, prime, degree in MIDDLE + GREAT:
            field, told = Field(prime, degree), Plain(prime, degree)
            pairs = [(0, 0), (0, size - 1), (size - 1, 0), (size - 1, size - 1), (1, size - 1)]
            pairs += [(chance.randrange(size), chance.randrange(size)) for _ in range(60)]
            for one, other in pairs:
                self.check_pair(field, told, one, other)

    def test_degree_one_reckons_modulo_the_prime(self):
        for prime in (2, 3, 31, 509):
            field = Field(prime)
            for one in range(0, prime, 1 + prime // 40):
                for other in range(prime):
                    self.assertEqual(field.plus(one, other), (one + other) % prime)
                    self.assertEqual(field.minus(one, other), (one - other) % prime)
                    self.assertEqual(field.times(one, other), one * other % prime)

    def test_opposites(self):
        for _, prime, degree in SMALL + GREAT:
            field = Field(prime, degree)
            for element in field:
                self.assertEqual(field.plus(element, field.opposite(element)), 0)
                self.assertEqual(field.opposite(element), field.minus(0, element))

    def test_powers(self):
        for size, prime, degree in SMALL:
            field, told = Field(prime, degree), Plain(prime, degree)
            for element in field:
                for many in range(0, 2 * size, 1 + size // 6):
                    power = told.raised(element, many)
                    self.assertEqual(field.raised(element, many), power)
                    if element != 0:
                        self.assertEqual(field.times(power, field.raised(element, -many)), 1)

    def test_great_exponents(self):
        for size, prime, degree in SMALL + GREAT:
            field = Field(prime, degree)
            for many in (10 ** 60 - 1, 1 - 10 ** 60, 10 ** 59 + 7, size - 1, size, -size):
                self.assertEqual(field.power_of(many), field.power_of(many % (size - 1)))
                for element in (1, field.generator, size - 1):
                    power = field.raised(element, many % (size - 1))
                    self.assertEqual(field.raised(element, many), power)
                if many > 0:
                    self.assertEqual(field.raised(0, many), 0)

    def test_power_zero(self):
        for _, prime, degree in SMALL:
            for element in Field(prime, degree):
                self.assertEqual(Field(prime, degree).raised(element, 0), 1)

    def test_logs(self):
        for size, prime, degree in SMALL + MIDDLE + GREAT:
            field, told = Field(prime, degree), Plain(prime, degree)
            for element in range(1, size):
                self.assertEqual(field.log_of(element), told.logs[element])
                self.assertEqual(field.power_of(told.logs[element]), element)
                self.assertEqual(field.power_of(told.logs[element] - size + 1), element)

    def test_traces_and_norms(self):
        for size, prime, degree in SMALL + MIDDLE + [(343, 7, 3), (512, 2, 9)]:
            field, told = Field(prime, degree), Plain(prime, degree)
            traces = [0] * prime
            for element in field:
                trace, norm = 0, 1
                for conjugate in told.conjugates(element):
                    trace, norm = told.plus(trace, conjugate), told.times(norm, conjugate)
                self.assertEqual(field.trace_of(element), trace)
                self.assertEqual(field.norm_of(element), norm)
                self.assertTrue(norm < prime)
                traces[trace] += 1
            self.assertEqual(traces, [size // prime] * prime)

    def test_traces_add_up_and_norms_are_multiplied(self):
        for _, prime, degree in SMALL:
            field = Field(prime, degree)
            for one in field:
                for other in field:
                    traces = field.plus(field.trace_of(one), field.trace_of(other))
                    self.assertEqual(field.trace_of(field.plus(one, other)), traces)
                    norms = field.times(field.norm_of(one), field.norm_of(other))
                    self.assertEqual(field.norm_of(field.times(one, other)), norms)

    def test_powers_with_the_prime_add_up(self):
        for _, prime, degree in SMALL:
            field = Field(prime, degree)
            for one in field:
                for other in field:
                    powers = field.plus(field.raised(one, prime), field.raised(other, prime))
                    self.assertEqual(powers, field.raised(field.plus(one, other), prime))


class Classes(unittest.TestCase):
    def test_classes(self):
        for size, prime, degree in SMALL + MIDDLE + GREAT:
            field, told = Field(prime, degree), Plain(prime, degree)
            for order in field.orders:
                known = [[] for _ in range(order)]
                for element in range(1, size):
                    known[told.logs[element] % order].append(element)
                    self.assertEqual(field.class_of(element, order), told.logs[element] % order)
                for number in range(order):
                    self.assertEqual(field.elements_of(order, number), tuple(known[number]))

    def test_class_of_minus_one(self):
        for size, prime, degree in SIZES:
            field = Field(prime, degree)
            for order in field.orders:
                number = opposite_class(field, order)
                self.assertEqual(number, field.class_of(field.opposite(1), order))
                if prime == 2 or (size - 1) // order % 2 == 0:
                    self.assertEqual(number, 0)
                else:
                    self.assertEqual(number * 2, order)

    def test_lesser_fields(self):
        for size, prime, degree in SMALL + MIDDLE + GREAT:
            field, told = Field(prime, degree), Plain(prime, degree)
            for part in range(1, degree + 1):
                if degree % part == 0:
                    known = [0] + [
                        element for element in range(1, size)
                        if told.logs[element] * (prime ** part - 1) % (size - 1) == 0
                    ]
                    self.assertEqual(field.lesser(part), tuple(known))
                    self.assertEqual(len(known), prime ** part)
            self.assertEqual(field.lesser(1), tuple(range(prime)))
            self.assertEqual(field.lesser(degree), tuple(range(size)))

    def test_lesser_fields_are_closed(self):
        for prime, degree in ((2, 4), (2, 6), (3, 4), (5, 2), (2, 8)):
            field = Field(prime, degree)
            for part in range(1, degree):
                if degree % part == 0:
                    lesser = field.lesser(part)
                    for one in lesser:
                        self.assertEqual(field.raised(one, prime ** part), one)
                        for other in lesser:
                            self.assertIn(field.plus(one, other), lesser)
                            self.assertIn(field.times(one, other), lesser)

    def test_what_is_not_true(self):
        self.assertNotEqual(Field(3, 2).generator, 3)
        seven = Field(7)
        self.assertNotEqual(seven.log_of(seven.plus(3, 3)), seven.log_of(3) * 2 % 6)
        self.assertNotEqual(seven.class_of(3, 2), seven.class_of(seven.opposite(3), 2))


if __name__ == "__main__":
    unittest.main()
