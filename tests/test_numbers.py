"""Numbers: [0.1], [0.2], [0.5] and [1.3] to [1.6], held against plain reckoning."""

import math
import unittest

from carryturns.base.numbers import (
    binomial_rest, common_divisor, count_units, digit_sum, digits_of, divisors, is_integer, is_name, is_prime,
    order_modulo, prime_powers, units_of,
)
from tests.support import all_kinds, plain_integer, short_integer

LONGEST = 10 ** 60 - 1


def sieve(end):
    """The list of all prime numbers below an end."""
    crossed = [False] * end
    found = []
    for number in range(2, end):
        if not crossed[number]:
            found.append(number)
            for multiple in range(number, end, number):
                crossed[multiple] = True
    return found


def euclid(one, other):
    """The greatest common divisor of two integers, by differences."""
    one, other = abs(one), abs(other)
    while other:
        one, other = other, one % other
    return one


PRIMES = sieve(32000)


class Integers(unittest.TestCase):
    def test_sixty_digits(self):
        for value in (LONGEST, -LONGEST, 0, -1, 10 ** 59):
            self.assertIs(is_integer(value), True)
        for value in (10 ** 60, -(10 ** 60), 10 ** 99, 10 ** 100 - 1):
            self.assertIs(is_integer(value), False)

    def test_booleans_are_none(self):
        self.assertIs(is_integer(True), False)
        self.assertIs(is_integer(False), False)

    def test_every_kind_is_judged(self):
        for value in all_kinds():
            self.assertIs(is_integer(value), short_integer(value))
            prime = plain_integer(value) and value in (2, 3, 7)
            self.assertIs(is_prime(value), prime, value)
            self.assertIs(is_name(value), type(value) is str and value == "a", value)


class Names(unittest.TestCase):
    def test_lengths(self):
        for many in range(12):
            self.assertIs(is_name("q" * many), 1 <= many <= 8)

    def test_letters(self):
        for code in range(127):
            small = 97 <= code <= 122
            self.assertIs(is_name(chr(code)), small, code)
            self.assertIs(is_name("ab" + chr(code) + "z"), small, code)

    def test_all_letters(self):
        self.assertTrue(is_name("abcdefgh") and is_name("ijklmnop") and is_name("qrstuvwx") and is_name("yz"))

    def test_other_kinds(self):
        for value in (("a",), ["a"], {"a": 1}, 1, None, True):
            self.assertIs(is_name(value), False)


class Primes(unittest.TestCase):
    def test_small_ones(self):
        known = set(PRIMES)
        for number in range(-10, 20000):
            self.assertIs(is_prime(number), number in known, number)

    def test_great_ones(self):
        for number in (999999937, 999999929, 2 ** 29 - 3, 998244353):
            self.assertIs(is_prime(number), True, number)
        for number in (31607 * 31607, 31607 * 31601, 999999937 - 2, 10 ** 9, 10 ** 9 - 1, 3 ** 18):
            self.assertIs(is_prime(number), False, number)

    def test_bound(self):
        # All of these are prime numbers, but above 10 ** 9.
        for number in (10 ** 9 + 7, 10 ** 9 + 9, 2 ** 31 - 1, 2 ** 61 - 1, 2 ** 127 - 1):
            self.assertIs(is_prime(number), False, number)


class Divisors(unittest.TestCase):
    def test_small_ones(self):
        for number in range(1, 1500):
            told = tuple(low for low in range(1, number + 1) if number % low == 0)
            self.assertEqual(divisors(number), told)

    def test_prime_powers(self):
        known = set(PRIMES)
        for number in list(range(1, 3000)) + [2 ** 29, 3 ** 18, 31607 ** 2, 735134400, 10 ** 9, 10 ** 9 - 1]:
            told = prime_powers(number)
            self.assertIs(type(told), dict)
            self.assertEqual(list(told), sorted(told))
            self.assertEqual(math.prod(prime ** many for prime, many in told.items()), number)
            for prime, many in told.items():
                self.assertTrue(many >= 1)
                self.assertTrue(prime in known or all(prime % low for low in PRIMES if low < prime))

    def test_edges(self):
        self.assertEqual(divisors(1), (1,))
        self.assertEqual(prime_powers(1), {})
        self.assertEqual(prime_powers(999999937), {999999937: 1})
        self.assertEqual(divisors(999999937), (1, 999999937))
        self.assertEqual(prime_powers(10 ** 9), {2: 9, 5: 9})
        told = tuple(sorted(2 ** one * 5 ** other for one in range(10) for other in range(10)))
        self.assertEqual(divisors(10 ** 9), told)

    def test_results_share_nothing(self):
        told = prime_powers(360)
        told[7] = 1
        self.assertEqual(prime_powers(360), {2: 3, 3: 2, 5: 1})

    def test_common_divisor(self):
        for one in range(-20, 21):
            self.assertEqual(common_divisor((one,)), abs(one))
            for other in range(-20, 21):
                common = common_divisor((one, other))
                if one == other == 0:
                    self.assertEqual(common, 0)
                else:
                    told = max(low for low in range(1, 21) if one % low == 0 and other % low == 0)
                    self.assertEqual(common, told)

    def test_common_divisor_of_many(self):
        self.assertEqual(common_divisor((12, -18, 0, 30)), 6)
        self.assertEqual(common_divisor((0, 0, 0)), 0)
        self.assertEqual(common_divisor((LONGEST, -LONGEST)), LONGEST)
        self.assertEqual(common_divisor(tuple(range(6, 6000, 6))), 6)
        self.assertEqual(common_divisor((-4,) * 100), 4)


class Units(unittest.TestCase):
    def test_all_of_them(self):
        for modulus in list(range(1, 200)) + [9973, 9999, 10000]:
            told = tuple(unit for unit in range(modulus) if euclid(unit, modulus) == 1)
            self.assertEqual(units_of(modulus), told)
            self.assertEqual(count_units(modulus), len(told))

    def test_edges(self):
        self.assertEqual([units_of(1), count_units(1)], [(0,), 1])
        self.assertEqual([units_of(2), count_units(2)], [(1,), 1])
        self.assertEqual([count_units(10000), count_units(9973)], [4000, 9972])


class Orders(unittest.TestCase):
    def test_all_of_them(self):
        for modulus in range(1, 60):
            for number in range(-70, 70):
                if euclid(number, modulus) == 1:
                    many = order_modulo(number, modulus)
                    powers = [(number ** exponent - 1) % modulus == 0 for exponent in range(1, many + 1)]
                    self.assertEqual(powers, [False] * (many - 1) + [True], (number, modulus))

    def test_modulus_one(self):
        for number in (0, 1, -1, 5, LONGEST):
            self.assertEqual(order_modulo(number, 1), 1)

    def test_great_ones(self):
        self.assertEqual(order_modulo(11, 9973), 9972)
        self.assertEqual(order_modulo(-1, 9973), 2)
        self.assertEqual(order_modulo(LONGEST, 10000), 2)
        self.assertEqual(order_modulo(10 ** 59 + 1, 10000), 1)


class Digits(unittest.TestCase):
    def test_they_make_the_number(self):
        numbers = list(range(300)) + [10 ** 9, LONGEST, 10 ** 59, 2 ** 199]
        for base in (2, 3, 7, 10, 60, 999, 1000):
            for number in numbers:
                digits = digits_of(number, base)
                self.assertIs(type(digits), tuple)
                self.assertEqual(sum(digit * base ** at for at, digit in enumerate(digits)), number)
                self.assertTrue(all(0 <= digit < base for digit in digits))
                self.assertTrue(number == 0 or digits[-1] != 0)
                self.assertEqual(digit_sum(number, base), sum(digits))

    def test_edges(self):
        self.assertEqual([digits_of(0, 2), digits_of(1, 2), digit_sum(0, 2), digit_sum(0, 1000)], [(), (1,), 0, 0])
        self.assertEqual([digits_of(999, 1000), digits_of(1000, 1000)], [(999,), (0, 1)])
        self.assertEqual(digits_of(LONGEST, 10), (9,) * 60)


class Binomials(unittest.TestCase):
    def test_against_the_triangle(self):
        row = [1]
        for top in range(60):
            for prime in (2, 3, 5, 7, 11, 13, 59, 61, 997):
                for low in range(top + 4):
                    told = row[low] % prime if low <= top else 0
                    self.assertEqual(binomial_rest(prime, top, low), told)
            row = [1] + [one + other for one, other in zip(row, row[1:])] + [1]

    def test_great_primes(self):
        for top, low in ((996, 500), (997, 1), (997, 500), (5000, 1234), (994009, 997), (2000, 1999)):
            self.assertEqual(binomial_rest(997, top, low), math.comb(top, low) % 997)

    def test_great_numbers(self):
        for prime in (2, 3, 101, 997):
            for top in (LONGEST, 10 ** 59, 3 ** 120, 10 ** 60 - 7):
                self.assertEqual(binomial_rest(prime, top, 3), top * (top - 1) * (top - 2) // 6 % prime)
                self.assertEqual(binomial_rest(prime, top, top - 2), top * (top - 1) // 2 % prime)
                self.assertEqual(binomial_rest(prime, top, top), 1)
                self.assertEqual(binomial_rest(prime, top - 1, top), 0)
                self.assertEqual(binomial_rest(prime, 5, top), 0)

    def test_zeros(self):
        for prime in (2, 997):
            self.assertEqual([binomial_rest(prime, 0, 0), binomial_rest(prime, 0, 1), binomial_rest(prime, 1, 0)],
                             [1, 0, 1])

    def test_power_of_a_prime_in_a_binomial_coefficient(self):
        for prime in (2, 3, 5, 7):
            for one in range(30):
                for other in range(30):
                    number = math.comb(one + other, one)
                    exponent = 0
                    while number % prime == 0:
                        number, exponent = number // prime, exponent + 1
                    digits = digit_sum(one, prime) + digit_sum(other, prime) - digit_sum(one + other, prime)
                    self.assertEqual(exponent * (prime - 1), digits)


if __name__ == "__main__":
    unittest.main()
