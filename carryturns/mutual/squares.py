"""Primes as sums of squares, told by searching and by sums J; powers modulo a prime."""

from math import isqrt

from carryturns.base.numbers import check_count, check_prime, is_integer, residue_power
from carryturns.errors import InvalidCount, InvalidOperation, InvalidOrder, TooMany
from carryturns.field.fields import MAX_SIZE, Field
from carryturns.total.totals import jacobi

MAX_SQUARED = 10 ** 6

MAX_FACTOR = 1000
MAX_TIMES = 100


def check_leaving_one(prime, order):
    """Refuse a prime that does not leave 1 modulo the order."""
    if prime % order != 1:
        raise InvalidOperation("a prime that does not leave 1")


def square_root(number):
    """The integer of at least 0 whose square is a number, or None."""
    root = isqrt(number)
    return root if root * root == number else None


def near_sign(number):
    """An integer that 3 does not divide, or its opposite: what leaves 1 modulo 3."""
    return number if number % 3 == 1 else -number


def two_squares(prime):
    """The pair (x, y) of integers above 0, x odd, whose squares add up to a prime."""
    check_prime(prime, MAX_SQUARED)
    check_leaving_one(prime, 4)
    one = 1
    while square_root(prime - one * one) is None:
        one += 2
    return one, square_root(prime - one * one)


def cube_squares(prime):
    """The pair (L, M) for which four times a prime is L * L + 27 * M * M."""
    check_prime(prime, MAX_SQUARED)
    check_leaving_one(prime, 3)
    low = 1
    while square_root(4 * prime - 27 * low * low) is None:
        low += 1
    return near_sign(square_root(4 * prime - 27 * low * low)), low


def squares_with(prime, factor, *, times=1):
    """The ascending tuple of all pairs with x * x + factor * y * y equal to a multiple of a prime."""
    check_prime(prime, MAX_SQUARED)
    check_count(factor, 1, MAX_FACTOR)
    check_count(times, 1, MAX_TIMES)
    total = prime * times
    pairs = []
    for other in range(isqrt(total // factor) + 1):
        one = square_root(total - factor * other * other)
        if one is not None:
            pairs.append((one, other))
    return tuple(sorted(pairs))


def pair_by_total(prime, order):
    """The pair of two_squares or of cube_squares, told by a sum J of the order 4 or 3."""
    check_prime(prime, MAX_SQUARED)
    if not is_integer(order) or order not in (3, 4):
        raise InvalidOrder("neither 3 nor 4")
    check_leaving_one(prime, order)
    if prime > MAX_SIZE:
        raise TooMany(MAX_SIZE)
    if order == 4:
        first, second = jacobi(Field(prime), 4, (1, 2)).entries
        return abs(first), abs(second)
    first, second = jacobi(Field(prime), 3, (1, 1)).entries
    return 2 * first - second, abs(second) // 3


def is_power_of(prime, number, order):
    """Whether a number is a power modulo a prime with the order as its exponent."""
    check_prime(prime, MAX_SQUARED)
    if not is_integer(number) or number % prime == 0:
        raise InvalidCount(number)
    if not is_integer(order) or order < 1 or (prime - 1) % order != 0:
        raise InvalidOrder("no divisor of the prime less 1")
    return residue_power(prime, number % prime, (prime - 1) // order) == 1 % prime
