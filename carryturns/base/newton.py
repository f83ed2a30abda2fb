"""Polynomials told by the sums of the powers of their roots, and determinants; nothing is checked here.

The entries of a monic polynomial are told with that of the greatest power first: 1, a1, .., ad. For
the sums S(1), S(2), .. of the powers of its roots, S(n) + a1 * S(n - 1) + .. + n * an is 0.
"""


def sums_of_entries(entries, many):
    """The list of the sums of the powers of the roots, with the exponents from 1 to many."""
    sums = []
    for exponent in range(1, many + 1):
        total = exponent * entries[exponent] if exponent < len(entries) else 0
        for at, entry in enumerate(entries[1:exponent]):
            total += entry * sums[exponent - at - 2]
        sums.append(-total)
    return sums


def entries_of_sums(sums):
    """The list of the entries, told by as many sums as there are roots."""
    entries = [1]
    for exponent in range(1, len(sums) + 1):
        total = 0
        for at, entry in enumerate(entries):
            total += entry * sums[exponent - at - 1]
        entries.append(-total // exponent)
    return entries


def determinant_of(matrix):
    """The determinant of a square of integers, by steps that leave no fractions."""
    rows = [list(row) for row in matrix]
    sign = 1
    last = 1
    while len(rows) > 1:
        first = [row for row in rows if row[0] != 0]
        if len(first) == 0:
            return 0
        at = rows.index(first[0])
        if at % 2 == 1:
            sign = -sign
        pivot = rows[at]
        rows = [eliminated(row, pivot, last) for row in rows[:at] + rows[at + 1:]]
        last = pivot[0]
    return sign * rows[0][0]


def eliminated(row, pivot, last):
    """A row without its first entry, with a multiple of another one taken away, divided by a pivot."""
    return [(entry * pivot[0] - less * row[0]) // last for entry, less in zip(row[1:], pivot[1:])]
