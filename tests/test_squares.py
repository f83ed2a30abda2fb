"""Squares: [0.20] and [15.6] to [15.9], held against searching, sums J and all powers modulo a prime."""

import math
import unittest

from carryturns.mutual.squares import cube_squares, is_power_of, pair_by_total, squares_with, two_squares

PRIMES = [number for number in range(2, 600) if all(number % low for low in range(2, math.isqrt(number) + 1))]
GREAT = [999983, 999979, 999961, 999959, 999953, 900001, 500009, 499979, 524287, 7919]


def searched(total, factor):
    """All pairs, by trying all integers for both."""
    return tuple(
        (x, y) for x in range(math.isqrt(total) + 1) for y in range(math.isqrt(total // factor) + 1)
        if x * x + factor * y * y == total
    )


class Squares(unittest.TestCase):
    def test_two_squares(self):
        for prime in PRIMES:
            if prime % 4 == 1:
                told = [(x, y) for x, y in searched(prime, 1) if x % 2 == 1]
                self.assertEqual([two_squares(prime)], told)

    def test_cube_squares(self):
        for prime in PRIMES:
            if prime % 3 == 1:
                told = [
                    (low, many) for low in range(-49, 50) for many in range(1, 10)
                    if low * low + 27 * many * many == 4 * prime and low % 3 == 1
                ]
                self.assertEqual([cube_squares(prime)], told)

    def test_great_primes(self):
        for prime in GREAT:
            if prime % 4 == 1:
                x, y = two_squares(prime)
                self.assertEqual((x * x + y * y, x % 2, x > 0, y > 0), (prime, 1, True, True))
            if prime % 3 == 1:
                low, many = cube_squares(prime)
                self.assertEqual((low * low + 27 * many * many, low % 3, many > 0), (4 * prime, 1, True))

    def test_squares_with_factors(self):
        for prime in (2, 3, 5, 13, 73, 97, 199, 509):
            for factor in (1, 2, 3, 7, 27, 64, 100, 999, 1000):
                for times in (1, 2, 4, 9, 25, 100):
                    pairs = squares_with(prime, factor, times=times)
                    self.assertEqual(pairs, searched(prime * times, factor))
                    self.assertEqual(list(pairs), sorted(pairs))
                self.assertEqual(squares_with(prime, factor), squares_with(prime, factor, times=1))
        self.assertEqual(squares_with(2, 1), ((1, 1),))
        self.assertEqual(squares_with(3, 1000), ())
        self.assertEqual(squares_with(5, 5), ((0, 1),))
        self.assertEqual(squares_with(5, 1, times=5), ((0, 5), (3, 4), (4, 3), (5, 0)))

    def test_great_squares(self):
        for prime in GREAT[:4]:
            for times in (1, 100):
                pairs = squares_with(prime, 1, times=times)
                roots = {x: math.isqrt(prime * times - x * x) for x in range(math.isqrt(prime * times) + 1)}
                self.assertEqual(pairs, tuple((x, y) for x, y in roots.items() if x * x + y * y == prime * times))

    def test_pairs_by_sums_j(self):
        for prime in PRIMES:
            if prime <= 509 and prime % 4 == 1:
                self.assertEqual(pair_by_total(prime, 4), two_squares(prime))
            if prime <= 509 and prime % 3 == 1:
                self.assertEqual(pair_by_total(prime, 3), cube_squares(prime))


class Powers(unittest.TestCase):
    def test_by_all_powers(self):
        for prime in PRIMES[:40]:
            for order in [order for order in range(1, prime) if (prime - 1) % order == 0]:
                powers = {pow(number, order, prime) for number in range(1, prime)}
                for number in range(-prime, 2 * prime):
                    if number % prime:
                        self.assertEqual(is_power_of(prime, number, order), number % prime in powers)

    def test_great_numbers(self):
        for prime in GREAT:
            for order in (1, 2, prime - 1):
                for number in (3 ** 100 % 10 ** 60, -(7 ** 60), 2, prime + 1, 10 ** 59 + 9):
                    told = pow(number, (prime - 1) // order, prime) == 1
                    self.assertEqual(is_power_of(prime, number, order), told)

    def test_small_numbers_told_by_pairs(self):
        for prime in PRIMES + GREAT:
            if prime % 3 == 1 and prime > 3:
                low, many = cube_squares(prime)
                self.assertEqual(is_power_of(prime, 2, 3), low % 2 == 0 and many % 2 == 0)
                self.assertEqual(is_power_of(prime, 3, 3), many % 3 == 0)
            if prime % 4 == 1:
                self.assertEqual(is_power_of(prime, 2, 4), two_squares(prime)[1] % 8 == 0)


if __name__ == "__main__":
    unittest.main()
