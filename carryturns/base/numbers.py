"""Integers: divisors, units, orders, digits and binomial coefficients."""

from math import comb, gcd

from carryturns.errors import InvalidCount, InvalidOperation, InvalidPrime, TooMany

MAX_NAME = 8
MAX_FACTORED = 10 ** 9
MAX_MODULUS = 10000
MAX_BASE = 1000

MAX_BINOMIAL_PRIME = 1000
TOO_LONG = 10 ** 60
LETTERS = "abcdefghijklmnopqrstuvwxyz"


def is_integer(value):
    """Whether the value is an integer of at most sixty digits; True and False are none."""
    return isinstance(value, int) and not isinstance(value, bool) and abs(value) < TOO_LONG


def is_name(value):
    """Whether the value is a string of one to eight letters a to z."""
    if not isinstance(value, str) or not 1 <= len(value) <= MAX_NAME:
        return False
    return all([letter in LETTERS for letter in value])


def is_prime(value):
    """Whether the value is a prime number of at most 10 ** 9."""
    if not is_integer(value) or not 2 <= value <= MAX_FACTORED:
        return False
    return least_divisor(value, 2) == value


def check_integer(value):
    """Refuse what is no integer."""
    if not is_integer(value):
        raise InvalidCount(value)


def check_count(value, low, high=None):
    """Refuse what is no integer within the bounds; without a high one there is only the low one."""
    if not is_integer(value) or value < low:
        raise InvalidCount(value)
    if high is not None and value > high:
        raise InvalidCount(value)


def check_prime(prime, high):
    """Refuse what is no prime number up to the bound."""
    if not is_prime(prime) or prime > high:
        raise InvalidPrime("no prime number within the bounds")


def least_divisor(number, start):
    """The least divisor of a number above 1 that is 2 or more, if none is below the prime start."""
    divisor = start
    while divisor * divisor <= number:
        if number % divisor == 0:
            return divisor
        divisor += 1 if divisor == 2 else 2
    return number


def first_powers(base, many):
    """The list of the powers of a base with the exponents 0 to many."""
    powers = [1]
    for _ in range(many):
        powers.append(powers[-1] * base)
    return powers


def residue_power(modulus, residue, exponent):
    """What the power of a residue leaves, by squaring."""
    power = 1 % modulus
    while exponent > 0:
        if exponent % 2 == 1:
            power = power * residue % modulus
        residue = residue * residue % modulus
        exponent = exponent // 2
    return power


def common_divisor(numbers):
    """The greatest integer that divides all integers of a tuple; 0 if there are only zeros."""
    if not isinstance(numbers, tuple) or not all([is_integer(number) for number in numbers]):
        raise InvalidOperation("no tuple of integers")
    common = 0
    for number in numbers:
        common = gcd(common, number)
    return common


def divisors(number):
    """The ascending tuple of all divisors of an integer from 1 to 10 ** 9."""
    found = [1]
    for prime, many in prime_powers(number).items():
        powers = first_powers(prime, many)
        found = [divisor * power for divisor in found for power in powers]
    return tuple(sorted(found))


def prime_powers(number):
    """The dict from the prime numbers that divide an integer to how often each one does."""
    check_count(number, 1)
    if number > MAX_FACTORED:
        raise TooMany(MAX_FACTORED)
    found = {}
    prime = 2
    while number > 1:
        prime = least_divisor(number, prime)
        found[prime] = found.get(prime, 0) + 1
        number = number // prime
    return found


def count_units(modulus):
    """How many units there are modulo an integer."""
    check_count(modulus, 1, MAX_MODULUS)
    many = modulus
    for prime in prime_powers(modulus):
        many = many // prime * (prime - 1)
    return many


def units_of(modulus):
    """The ascending tuple of the units modulo an integer; modulo 1 it is (0,)."""
    check_count(modulus, 1, MAX_MODULUS)
    return tuple([unit for unit in range(modulus) if gcd(unit, modulus) == 1])


def order_modulo(number, modulus):
    """The least exponent from 1 on with which the power of a number leaves 1."""
    check_integer(number)
    check_count(modulus, 1, MAX_MODULUS)
    if gcd(number, modulus) > 1:
        raise InvalidOperation("a common divisor above 1")
    power = number % modulus
    exponent = 1
    # Modulo 1 the power is 0, and so is what 1 leaves.
    while (power - 1) % modulus != 0:
        power = power * number % modulus
        exponent += 1
    return exponent


def digits_of(number, base):
    """The tuple of the digits of an integer, the lowest one first; () for 0."""
    check_count(number, 0)
    check_count(base, 2, MAX_BASE)
    digits = []
    while number > 0:
        digits.append(number % base)
        number = number // base
    return tuple(digits)


def digit_sum(number, base):
    """The sum of the digits of an integer."""
    return sum(digits_of(number, base))


def binomial_rest(prime, top, low):
    """What the binomial coefficient of top and low leaves modulo a prime, digit by digit."""
    check_prime(prime, MAX_BINOMIAL_PRIME)
    tops = digits_of(top, prime)
    lows = digits_of(low, prime)
    if len(lows) > len(tops):
        return 0
    rest = 1
    for upper, lower in zip(tops, lows):
        rest = rest * comb(upper, lower) % prime
    return rest
