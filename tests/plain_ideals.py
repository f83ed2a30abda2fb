"""Least rows in the plainest way: an elimination by subtracting rows from one another."""

from tests import plain_turns


def least_rows(width, rows):
    """The least rows of some rows that have a diagonal without zeros."""
    left = [list(row) for row in rows if any(row)]
    found = []
    for at in range(width):
        while True:
            some = sorted([row for row in left if row[at]], key=lambda row: abs(row[at]))
            if len(some) < 2:
                break
            for row in some[1:]:
                quotient = row[at] // some[0][at]
                row[:] = [entry - quotient * less for entry, less in zip(row, some[0])]
        (pivot,) = some
        left = [row for row in left if row is not pivot and any(row)]
        found.append([-entry for entry in pivot] if pivot[at] < 0 else pivot)
    assert not left
    for at in reversed(range(width)):
        for to in range(at + 1, width):
            quotient = found[at][to] // found[to][to]
            found[at] = [entry - quotient * less for entry, less in zip(found[at], found[to])]
    return tuple(map(tuple, found))


def multiples(order, entries):
    """The entries of a turn number, times all powers of z."""
    powers = {at: entry for at, entry in enumerate(entries)}
    return [plain_turns.entries_of(order, {at + by: entry for at, entry in powers.items()}) for by in range(order)]


def rows_of(order, members):
    """The least rows of the ideal of some turn numbers, told by their entries."""
    rows = [row for entries in members for row in multiples(order, entries)]
    return least_rows(len(members[0]), rows)


def is_member(rows, entries):
    """Whether a row is a sum of multiples of least rows: they stay the same with it."""
    return least_rows(len(rows), list(rows) + [entries]) == rows


def is_ideal(order, rows):
    """Whether the sums of multiples of rows have all their products with z."""
    return least_rows(len(rows), [row for told in rows for row in multiples(order, told)]) == rows
