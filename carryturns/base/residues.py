"""Rows of residues: polynomials modulo a prime number, as tuples, the entry of the power 0 first."""

from carryturns.base.factoring import factor_pairs, is_irreducible
from carryturns.base.numbers import check_count, check_prime, digits_of, divisors, first_powers, is_integer
from carryturns.base.rows import (
    add_rows, code_of, common_row, divide_rows, multiply_rows, power_modulo, roots_in, subtract_rows,
    value_at,
)
from carryturns.errors import InvalidOperation, InvalidPolynomial, TooMany

MAX_RESIDUE_PRIME = 1000
MAX_DEGREE = 60
MAX_SEARCHED = 10 ** 6

MAX_COUNTED_DEGREE = 12


def is_row(prime, value):
    """Whether the value is a row of what is known to be a prime."""
    if not isinstance(value, tuple) or len(value) > MAX_DEGREE + 1:
        return False
    if not all([is_integer(entry) and 0 <= entry < prime for entry in value]):
        return False
    return len(value) == 0 or value[-1] != 0


def check_row(prime, row):
    """Refuse what is no row."""
    if not is_row(prime, row):
        raise InvalidPolynomial("no row of the prime")


def check_rows(prime, *rows):
    """Refuse what is no prime of this file, and the first thing that is no row of it."""
    check_prime(prime, MAX_RESIDUE_PRIME)
    for row in rows:
        check_row(prime, row)


def check_not_empty(row):
    """Refuse the row () where it has no result."""
    if not row:
        raise InvalidOperation("the row ()")


def is_residue_row(prime, value):
    """Whether the value is a row of a prime."""
    check_prime(prime, MAX_RESIDUE_PRIME)
    return is_row(prime, value)


def row_plus(prime, one, other):
    """The sum of two rows."""
    check_rows(prime, one, other)
    return add_rows(prime, one, other)


def row_minus(prime, one, other):
    """The difference of two rows."""
    check_rows(prime, one, other)
    return subtract_rows(prime, one, other)


def row_times(prime, one, other):
    """The product of two rows, of a degree up to 60."""
    check_rows(prime, one, other)
    product = multiply_rows(prime, one, other)
    if len(product) > MAX_DEGREE + 1:
        raise TooMany(MAX_DEGREE)
    return product


def row_divided(prime, one, other):
    """The pair of the quotient and of the rest."""
    check_rows(prime, one, other)
    check_not_empty(other)
    return divide_rows(prime, one, other)


def row_common(prime, one, other):
    """The monic row of the greatest degree that divides both rows; () if both are ()."""
    check_rows(prime, one, other)
    return common_row(prime, one, other)


def row_power(prime, row, many, modulus):
    """The rest of the power of a row with the exponent many by a modulus."""
    check_rows(prime, row)
    check_count(many, 0)
    check_row(prime, modulus)
    check_not_empty(modulus)
    return power_modulo(prime, row, many, modulus)


def row_value(prime, row, residue):
    """The residue that is the value of a row at a residue."""
    check_rows(prime, row)
    check_count(residue, 0, prime - 1)
    return value_at(prime, row, residue)


def row_code(prime, row):
    """The code of a row."""
    check_rows(prime, row)
    return code_of(prime, row)


def row_of_code(prime, code):
    """The row with a code, of a degree up to 60."""
    check_prime(prime, MAX_RESIDUE_PRIME)
    row = digits_of(code, prime)
    if len(row) > MAX_DEGREE + 1:
        raise TooMany(MAX_DEGREE)
    return row


def is_irreducible_row(prime, row):
    """Whether a row, monic or not, is irreducible."""
    check_rows(prime, row)
    return is_irreducible(prime, row)


def least_irreducible(prime, degree):
    """The monic irreducible row of a degree with the least code."""
    check_prime(prime, MAX_RESIDUE_PRIME)
    check_count(degree, 1, MAX_COUNTED_DEGREE)
    code = first_powers(prime, degree)[-1]
    if code > MAX_SEARCHED:
        raise TooMany(MAX_SEARCHED)
    # The codes from here on are those of the monic rows of this degree, one of which is irreducible.
    while not is_irreducible(prime, digits_of(code, prime)):
        code += 1
    return digits_of(code, prime)


def row_factors(prime, row):
    """The tuple of the pairs of a factor of a row and of its exponent, ascending."""
    check_rows(prime, row)
    check_not_empty(row)
    coded = [(code_of(prime, factor), factor, many) for factor, many in factor_pairs(prime, row)]
    return tuple([(factor, many) for _, factor, many in sorted(coded)])


def count_irreducible(prime, degree):
    """The number of the monic irreducible rows of a degree."""
    check_prime(prime, MAX_RESIDUE_PRIME)
    check_count(degree, 1, MAX_COUNTED_DEGREE)
    powers = first_powers(prime, degree)
    counts = {}
    for part in divisors(degree):
        less = sum([lower * counts[lower] for lower in counts if part % lower == 0])
        counts[part] = (powers[part] - less) // part
    return counts[degree]


def row_roots(prime, row):
    """The ascending tuple of all residues at which the value of a row is 0."""
    check_rows(prime, row)
    check_not_empty(row)
    return tuple(roots_in(prime, row))
