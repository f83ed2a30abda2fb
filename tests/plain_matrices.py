"""Determinants and polynomials in the plainest way, to hold the package against."""

from fractions import Fraction


def determinant(matrix):
    """The determinant of a square of integers, by fractions."""
    rows = [[Fraction(entry) for entry in row] for row in matrix]
    found = Fraction(1)
    for at in range(len(rows)):
        pivots = [row for row in range(at, len(rows)) if rows[row][at] != 0]
        if not pivots:
            return 0
        if pivots[0] != at:
            rows[at], rows[pivots[0]] = rows[pivots[0]], rows[at]
            found = -found
        found *= rows[at][at]
        for low in range(at + 1, len(rows)):
            factor = rows[low][at] / rows[at][at]
            rows[low] = [entry - factor * less for entry, less in zip(rows[low], rows[at])]
    assert found.denominator == 1
    return int(found)


def value(poly, number):
    """The value of a polynomial, the entry of the power 0 first."""
    return sum(entry * number ** at for at, entry in enumerate(poly))


def shifted_determinant(matrix, number):
    """The determinant of a number times the table with 1 on the diagonal, less the matrix."""
    return determinant([
        [(number if at == to else 0) - entry for to, entry in enumerate(row)] for at, row in enumerate(matrix)
    ])


def poly_of_roots(roots):
    """The monic polynomial with these roots."""
    poly = [1]
    for root in roots:
        poly = [low - root * high for low, high in zip([0] + poly, poly + [0])]
    return tuple(poly)


def sylvester(one, other):
    """The determinant that is 0 if two polynomials have a root in common: Sylvester's."""
    high, low = len(one) - 1, len(other) - 1
    rows = [[0] * at + list(one[::-1]) + [0] * (low - 1 - at) for at in range(low)]
    rows += [[0] * at + list(other[::-1]) + [0] * (high - 1 - at) for at in range(high)]
    return determinant(rows)


def discriminant(poly):
    """The discriminant of a monic polynomial, by Sylvester's determinant of it and its derivative."""
    degree = len(poly) - 1
    derivative = [at * entry for at, entry in enumerate(poly)][1:]
    return sylvester(poly, derivative) * (-1) ** (degree * (degree - 1) // 2)
