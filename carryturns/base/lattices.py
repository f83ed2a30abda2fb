"""Least rows: the rows of integers that tell all sums of multiples of some rows; nothing is checked here.

The row with the index i has 0 ahead of the index i, and above 0 at it; the rows ahead have at this
index an integer from 0 to one less than this. All rows have as many integers as there are rows.
"""


def less_row(row, other, factor, number):
    """A row, less a multiple of another one, without multiples of a number."""
    return [(entry - factor * less) % number for entry, less in zip(row, other)]


def common_factors(one, other):
    """The common divisor of two integers above 0, and what they are multiplied by to add up to it."""
    factors = (1, 0)
    nexts = (0, 1)
    while other != 0:
        quotient = one // other
        one, other = other, one - quotient * other
        factors, nexts = nexts, (factors[0] - quotient * nexts[0], factors[1] - quotient * nexts[1])
    return one, factors[0], factors[1]


def take_in(rows, row, number):
    """Change rows with zeros ahead of their diagonals so that they tell one more row, too.

    The number is one whose multiples in each place the rows tell already.
    """
    width = len(rows)
    for at in range(width):
        if row[at] != 0:
            pivot = rows[at]
            quotient, rest = divmod(row[at], pivot[at])
            if rest == 0:
                row = less_row(row, pivot, quotient, number)
            else:
                common, first, second = common_factors(pivot[at], row[at])
                up, down = row[at] // common, pivot[at] // common
                both = list(zip(pivot, row))
                # Ahead of the index all is 0; behind it multiples of the number are left out.
                rows[at] = [(first * one + second * other) % number for one, other in both]
                rows[at][at] = common
                row = [(up * one - down * other) % number for one, other in both]


def diagonal_rows(width, number):
    """The list of the rows with a number on the diagonal, and 0 elsewhere."""
    return [[0] * at + [number] + [0] * (width - at - 1) for at in range(width)]


def least_rows(width, rows, number):
    """The tuple of the least rows of some rows and of the multiples of a number above 0 in each place."""
    found = diagonal_rows(width, number)
    for row in rows:
        take_in(found, [entry % number for entry in row], number)
    for at in range(width):
        for to in range(at + 1, width):
            quotient = found[at][to] // found[to][to]
            if quotient != 0:
                row = [entry - quotient * less for entry, less in zip(found[at], found[to])]
                found[at] = row
    return tuple([tuple(row) for row in found])


def is_told(rows, row, number):
    """Whether a row is a sum of multiples of least rows, which tell the multiples of a number."""
    for at, pivot in enumerate(rows):
        if row[at] % pivot[at] != 0:
            return False
        if row[at] != 0:
            row = less_row(row, pivot, row[at] // pivot[at], number)
    return True


def rows_led_into(rows, images, told, number):
    """The least rows of all sums of multiples of some rows whose images other least rows tell.

    Each of the rows has one image, a sum has the sum of their images, and the least rows tell the
    multiples of a number in each place.
    """
    width = len(told)
    # As for shared rows: where the image is made 0 by what is told, the sum is in the second half.
    both = [list(image) + list(row) for image, row in zip(images, rows)]
    both = both + [list(row) + [0] * width for row in told]
    found = least_rows(2 * width, both, number)
    return tuple([row[width:] for row in found[width:]])


def shared_rows(one, other, number):
    """The least rows of what both least rows tell; they tell the multiples of a number in each place."""
    return rows_led_into(one, one, other, number)


def has_least_form(width, value):
    """Whether tuples of integers have the form of least rows with so many integers."""
    for at, row in enumerate(value):
        if any(row[:at]) or row[at] <= 0:
            return False
        if not all([0 <= ahead[at] < row[at] for ahead in value[:at]]):
            return False
    return len(value) == width
