"""Places in the plainest way: factors by trying all rows, and lifted factors by trying all digits."""

import functools
import itertools

from tests import plain_rows, plain_turns


def degree_of(order, prime):
    """The least exponent from 1 on for which the order divides the power of the prime, less 1."""
    degree, power = 1, prime
    while (power - 1) % order:
        degree, power = degree + 1, power * prime
    return degree


@functools.lru_cache(None)
def factors(order, prime):
    """All monic rows of the degree of the places that divide the cyclotomic polynomial, as ascending tuples."""
    row = plain_rows.trim([entry % prime for entry in plain_turns.cyclotomic(order)])
    found = [low for low in plain_rows.monic_rows(prime, degree_of(order, prime)) if not plain_rows.rest(prime, row, low)]
    return sorted(found)


def lift(order, prime, poly, many):
    """The monic polynomial modulo the prime to the power many that belongs to a place, digit by digit."""
    found = list(poly)
    for step in range(1, many):
        modulus = prime ** (step + 1)
        fits = []
        for digits in itertools.product(range(prime), repeat=len(poly) - 1):
            tried = [entry + prime ** step * digit for entry, digit in zip(found, digits + (0,))]
            rest = plain_turns.divided(plain_turns.cyclotomic(order), tried)[1]
            if all(entry % modulus == 0 for entry in rest):
                fits.append(tried)
        assert len(fits) == 1
        found = fits[0]
    return found


def times_of(order, prime, poly, entries):
    """How many times a turn number is in a place, by the lifted polynomials."""
    many = 0
    while True:
        lifted = lift(order, prime, poly, many + 1)
        rest = plain_turns.divided(entries, lifted)[1] if len(entries) >= len(lifted) else entries
        if any(entry % prime ** (many + 1) for entry in rest):
            return many
        many += 1


def power(prime, poly, row, exponent):
    """What a power leaves modulo a place, by squares of what is left."""
    found = plain_rows.rest(prime, (1,), poly)
    for digit in bin(exponent)[2:]:
        found = plain_rows.rest(prime, plain_rows.times(prime, found, found), poly)
        if digit == "1":
            found = plain_rows.rest(prime, plain_rows.times(prime, found, row), poly)
    return found


def symbol(order, prime, poly, entries):
    """The symbol, by comparing with all powers of z; None for a turn number in the place."""
    row = plain_rows.rest(prime, plain_rows.trim([entry % prime for entry in entries]), poly)
    if not row:
        return None
    size = prime ** (len(poly) - 1)
    left = power(prime, poly, row, (size - 1) // order)
    root = plain_rows.rest(prime, (0, 1), poly)
    fits = [k for k in range(order) if power(prime, poly, root, k) == left]
    assert len(fits) == 1
    return fits[0]
