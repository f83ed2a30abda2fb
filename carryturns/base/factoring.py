"""The irreducible factors of rows of residues, by the rows that are their own power with the prime.

Modulo a row without square factors, the rows h for which h ** prime leaves h are added and
multiplied like tuples of residues, one residue for each irreducible factor: so a basis of them has
as many rows as there are factors, and their values take the factors apart. Nothing is checked here.
"""

from carryturns.base.rows import (
    common_row, divide_rows, inverse_residue, monic_row, multiply_modulo, power_modulo, rest_row,
    roots_in, subtract_rows, trimmed,
)


def derived_row(prime, row):
    """The derivative of a row."""
    return trimmed([at * entry % prime for at, entry in enumerate(row)][1:])


def padded(row, width):
    """The list of the entries of a row, with zeros behind them up to a width."""
    return list(row) + [0] * (width - len(row))


def first_place(line, width):
    """The index of the first entry other than 0 among the first ones, or the width."""
    for at in range(width):
        if line[at] != 0:
            return at
    return width


def relations_of(prime, vectors, width):
    """Rows of factors with which the vectors, of one width, add up to zeros alone.

    Each vector that hangs on those ahead of it gives one such row, with the last entry 1.
    """
    kept = []
    found = []
    for at, vector in enumerate(vectors):
        # Behind the vector stands by which factors the line is made of the vectors.
        line = list(vector) + [0] * len(vectors)
        line[width + at] = 1
        for pivot, known in kept:
            factor = line[pivot]
            if factor != 0:
                line = [(entry - factor * less) % prime for entry, less in zip(line, known)]
        place = first_place(line, width)
        if place == width:
            found.append(trimmed(line[width:]))
        else:
            inverse = inverse_residue(prime, line[place])
            kept.append((place, [entry * inverse % prime for entry in line]))
    return found


def fixed_rows(prime, row):
    """A basis of the rows that are their own power with the prime, modulo a row; (1,) is the first."""
    width = len(row) - 1
    step = power_modulo(prime, (0, 1), prime, row)
    power = (1,)
    lines = []
    for at in range(width):
        line = padded(power, width)
        line[at] = (line[at] - 1) % prime
        lines.append(line)
        power = multiply_modulo(prime, power, step, row)
    return relations_of(prime, lines, width)


def values_of(prime, fixed, row, most):
    """The residues that a fixed row leaves by the irreducible factors of a row, at most so many."""
    width = len(row) - 1
    power = (1,)
    lines = []
    for _ in range(most + 1):
        lines.append(padded(power, width))
        power = multiply_modulo(prime, power, fixed, row)
    # The first relation between the powers is the least polynomial that has these values as roots.
    return roots_in(prime, relations_of(prime, lines, width)[0])


def split_by(prime, row, fixed, most):
    """The parts of a row by whose irreducible factors a fixed row leaves equal residues."""
    parts = []
    for value in values_of(prime, fixed, row, most):
        parts.append(common_row(prime, row, subtract_rows(prime, fixed, trimmed((value,)))))
    return parts


def split_simple(prime, row):
    """The irreducible factors of a monic row that no square of a row of a degree above 0 divides."""
    if len(row) == 1:
        return []
    basis = fixed_rows(prime, row)
    parts = [row]
    for fixed in basis[1:]:
        if len(parts) < len(basis):
            parts = [less for part in parts for less in split_by(prime, part, fixed, len(basis))]
    return parts


def is_irreducible(prime, row):
    """Whether a row is irreducible."""
    if len(row) < 2 or len(common_row(prime, row, derived_row(prime, row))) > 1:
        return False
    return len(fixed_rows(prime, row)) == 1


def taken_out(prime, row, factor):
    """The pair of how often a factor divides a row, and of what is left without it."""
    many = 0
    while not rest_row(prime, row, factor):
        row = divide_rows(prime, row, factor)[0]
        many += 1
    return many, row


def factor_pairs(prime, row):
    """The list of the pairs of an irreducible factor of a row and of its exponent."""
    row = monic_row(prime, row)
    found = []
    times = 1
    while len(row) > 1:
        double = common_row(prime, row, derived_row(prime, row))
        for factor in split_simple(prime, divide_rows(prime, row, double)[0]):
            many, row = taken_out(prime, row, factor)
            found.append((factor, many * times))
        # What is left is a power with the prime, so it has no other entries than these.
        row = row[::prime]
        times = times * prime
    return found
