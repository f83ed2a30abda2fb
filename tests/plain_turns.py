"""Turn numbers in the plainest way, to hold the package against: polynomials with integers, and complex numbers."""

import cmath
import functools
import math


def times(one, other):
    """The product of two polynomials, term by term."""
    sums = [0] * (len(one) + len(other) - 1)
    for at, first in enumerate(one):
        for to, second in enumerate(other):
            sums[at + to] += first * second
    return sums


def divided(one, monic):
    """The pair of the quotient and of the rest by a monic polynomial."""
    rest, quotient = list(one), [0] * max(0, len(one) - len(monic) + 1)
    for at in range(len(one) - len(monic), -1, -1):
        quotient[at] = factor = rest[at + len(monic) - 1]
        for to, entry in enumerate(monic):
            rest[at + to] -= factor * entry
    return quotient, (rest + [0] * len(monic))[:len(monic) - 1]


@functools.lru_cache(None)
def cyclotomic(order):
    """X ** order - 1, divided by the polynomials of all lesser divisors of the order."""
    poly = [-1] + [0] * (order - 1) + [1]
    for divisor in range(1, order):
        if order % divisor == 0:
            poly, rest = divided(poly, cyclotomic(divisor))
            assert not any(rest)
    return tuple(poly)


def units(order):
    """The units modulo an order."""
    return [unit for unit in range(order) if math.gcd(unit, order) == 1]


def entries_of(order, powers):
    """The entries of a sum of powers of z, told by a dict from exponents to integers."""
    poly = [0] * order
    for exponent, many in powers.items():
        poly[exponent % order] += many
    return tuple(divided(poly, cyclotomic(order))[1])


def product(order, one, other):
    """The entries of a product."""
    return tuple(divided(times(one, other), cyclotomic(order))[1])


def turned(order, entries, unit):
    """The entries of a turned turn number."""
    powers = {}
    for at, entry in enumerate(entries):
        powers[at * unit % order] = powers.get(at * unit % order, 0) + entry
    return entries_of(order, powers)


def norm(order, entries):
    """The product of all turned ones, one by one; all its entries but the first one are 0."""
    found = (1,) + (0,) * (len(entries) - 1)
    for unit in units(order):
        found = product(order, found, turned(order, entries, unit))
    assert not any(found[1:])
    return found[0]


def trace(order, entries):
    """The sum of all turned ones."""
    rows = [turned(order, entries, unit) for unit in units(order)]
    sums = [sum(column) for column in zip(*rows)]
    assert not any(sums[1:])
    return sums[0]


def lifted(order, entries, multiple):
    """The entries of a lifted turn number."""
    return entries_of(multiple, {at * (multiple // order): entry for at, entry in enumerate(entries)})


def complex_value(order, entries, unit=1):
    """The complex number that a turn number is, z being the first root of its order, turned by a unit."""
    root = cmath.exp(2j * cmath.pi * unit / order)
    return sum(entry * root ** at for at, entry in enumerate(entries))
