"""Polynomials modulo a prime in the plainest way, to hold the package against."""

import itertools


def trim(entries):
    """The entries as a tuple without zeros at the end."""
    entries = list(entries)
    while entries and entries[-1] == 0:
        entries.pop()
    return tuple(entries)


def all_rows(prime, length):
    """All rows with at most so many integers, ascending by their codes."""
    found = [trim(reversed(entries)) for entries in itertools.product(range(prime), repeat=length)]
    return sorted(found, key=lambda row: code(prime, row))


def monic_rows(prime, degree):
    """All monic rows of a degree, ascending by their codes."""
    found = [tuple(reversed(entries)) + (1,) for entries in itertools.product(range(prime), repeat=degree)]
    return sorted(found, key=lambda row: code(prime, row))


def code(prime, row):
    """The code of a row."""
    return sum(entry * prime ** at for at, entry in enumerate(row))


def plus(prime, one, other):
    """The sum, power by power."""
    long = max(len(one), len(other))
    one, other = list(one) + [0] * (long - len(one)), list(other) + [0] * (long - len(other))
    return trim((first + second) % prime for first, second in zip(one, other))


def minus(prime, one, other):
    """The difference."""
    return plus(prime, one, tuple(-entry % prime for entry in other))


def times(prime, one, other):
    """The product, term by term."""
    sums = {}
    for at, first in enumerate(one):
        for to, second in enumerate(other):
            sums[at + to] = sums.get(at + to, 0) + first * second
    return trim(sums.get(at, 0) % prime for at in range(len(one) + len(other)))


def rest(prime, one, other):
    """The rest, by taking away multiples of the divisor, shifted, until its degree is below."""
    while len(one) >= len(other):
        for factor in range(1, prime):
            if factor * other[-1] % prime == one[-1]:
                break
        shifted = (0,) * (len(one) - len(other)) + tuple(factor * entry % prime for entry in other)
        one = minus(prime, one, shifted)
    return one


def power(prime, row, many, modulus):
    """The rest of a power, factor by factor."""
    found = rest(prime, (1,), modulus)
    for _ in range(many):
        found = rest(prime, times(prime, found, row), modulus)
    return found


def value(prime, row, residue):
    """The value at a residue."""
    return sum(entry * residue ** at for at, entry in enumerate(row)) % prime


def irreducible_rows(prime, degree):
    """The dict from each degree from 1 on to all monic irreducible rows, ascending, without products."""
    products = set()
    found = {}
    for this in range(1, degree + 1):
        for low in range(1, this // 2 + 1):
            for one in monic_rows(prime, low):
                for other in monic_rows(prime, this - low):
                    products.add(times(prime, one, other))
        found[this] = [row for row in monic_rows(prime, this) if row not in products]
    return found


def scaled(prime, row, factor):
    """The row, multiplied by a residue."""
    return trim(entry * factor % prime for entry in row)
