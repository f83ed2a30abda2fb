"""Sums, products, quotients and powers of rows of residues; nothing is checked here."""


def inverse_residue(prime, residue):
    """The residue whose product with this one, which is not 0, leaves 1."""
    last, rest = prime, residue
    before, factor = 0, 1
    while rest > 0:
        quotient = last // rest
        last, rest = rest, last - quotient * rest
        before, factor = factor, before - quotient * factor
    return before % prime


def trimmed(entries):
    """A row of the entries, without zeros at the end."""
    end = len(entries)
    while end > 0 and entries[end - 1] == 0:
        end -= 1
    return tuple(entries[:end])


def scale_row(prime, row, factor):
    """The row with each entry multiplied by a factor that the prime does not divide."""
    return tuple([entry * factor % prime for entry in row])


def monic_row(prime, row):
    """The row, divided by its last entry; () stays."""
    if not row:
        return ()
    return scale_row(prime, row, inverse_residue(prime, row[-1]))


def add_rows(prime, one, other):
    """The sum of two rows."""
    both = [(first + second) % prime for first, second in zip(one, other)]
    return trimmed(both + list(one[len(other):]) + list(other[len(one):]))


def subtract_rows(prime, one, other):
    """The difference of two rows."""
    return add_rows(prime, one, scale_row(prime, other, prime - 1))


def multiply_rows(prime, one, other):
    """The product of two rows."""
    if not one or not other:
        return ()
    width = len(other)
    sums = [0] * (len(one) + width - 1)
    for at, factor in enumerate(one):
        if factor != 0:
            end = at + width
            sums[at:end] = [total + factor * entry for total, entry in zip(sums[at:end], other)]
    return tuple([total % prime for total in sums])


def divide_rows(prime, one, other):
    """The pair of the quotient and of the rest, other being no empty row."""
    width = len(other)
    inverse = inverse_residue(prime, other[-1])
    steps = max(0, len(one) - width + 1)
    quotient = [0] * steps
    rest = list(one)
    for at in reversed(range(steps)):
        end = at + width
        factor = rest[end - 1] * inverse % prime
        if factor != 0:
            quotient[at] = factor
            rest[at:end] = [(left - factor * entry) % prime for left, entry in zip(rest[at:end], other)]
    return tuple(quotient), trimmed(rest[:width - 1])


def rest_row(prime, one, other):
    """The rest alone."""
    return divide_rows(prime, one, other)[1]


def multiply_modulo(prime, one, other, modulus):
    """The rest of the product of two rows by a modulus."""
    return rest_row(prime, multiply_rows(prime, one, other), modulus)


def multiply_by_short(prime, short, entries, monic):
    """The list of the entries of the rest of a product by a monic row, zeros at the end included.

    One factor is a row of few entries, the other one is told by as many entries as the degree of the
    monic row.
    """
    product = [short[-1] * entry % prime for entry in entries]
    for factor in reversed(short[:-1]):
        # Multiplied by X, the last entry belongs to the degree of the monic row, and goes by it.
        last = product[-1]
        product = [(low - last * less) % prime for low, less in zip([0] + product[:-1], monic)]
        if factor != 0:
            product = [(total + factor * entry) % prime for total, entry in zip(product, entries)]
    return product


def power_modulo(prime, row, exponent, modulus):
    """The rest of a power of a row by a modulus, by squaring."""
    power = rest_row(prime, (1,), modulus)
    square = rest_row(prime, row, modulus)
    while exponent > 0:
        if exponent % 2 == 1:
            power = multiply_modulo(prime, power, square, modulus)
        square = multiply_modulo(prime, square, square, modulus)
        exponent = exponent // 2
    return power


def common_row(prime, one, other):
    """The monic row of the greatest degree that divides both rows; () if both are ()."""
    while other:
        one, other = other, rest_row(prime, one, other)
    return monic_row(prime, one)


def value_at(prime, row, residue):
    """The value of a row at a residue."""
    value = 0
    for entry in reversed(row):
        value = (value * residue + entry) % prime
    return value


def roots_in(prime, row):
    """The ascending list of all residues at which the value of a row is 0."""
    return [residue for residue in range(prime) if value_at(prime, row, residue) == 0]


def code_of(prime, row):
    """The sum of the entries, each multiplied by the prime to the power of its index."""
    code = 0
    for entry in reversed(row):
        code = code * prime + entry
    return code
