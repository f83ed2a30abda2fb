"""Waves in the plainest way: tables that tell how often each z ** i * w ** j is there."""

from tests import plain_classes, plain_turns


def table_of(wave):
    """The table of a wave of the package: for each power of w the list of the powers of z."""
    rows = [list(turn.entries) + [0] * (wave.order - len(turn.entries)) for turn in wave.entries]
    return rows + [[0] * wave.order]


def entries_of(order, prime, table):
    """The entries of all turn numbers, the last power of w being the opposite of the sum of the others."""
    rows = [[many - less for many, less in zip(row, table[prime - 1])] for row in table[:prime - 1]]
    return tuple(plain_turns.entries_of(order, dict(enumerate(row))) for row in rows)


def product(order, prime, one, other):
    """The table of a product, term by term."""
    found = [[0] * order for _ in range(prime)]
    for i, row in enumerate(one):
        for j, many in enumerate(row):
            if many:
                for k, line in enumerate(other):
                    for n, times in enumerate(line):
                        found[(i + k) % prime][(j + n) % order] += many * times
    return found


def trace(field, element):
    """The trace, by adding up powers made by products alone."""
    total, power = 0, element
    for _ in range(field.degree):
        total = field.plus(total, power)
        raised = 1
        for _ in range(field.prime):
            raised = field.times(raised, power)
        power = raised
    assert power == element and total < field.prime
    return total


def gauss_table(field, order, index, element=1):
    """The table of a Gauss sum, by going through all elements other than 0."""
    table = [[0] * order for _ in range(field.prime)]
    for one, log in plain_classes.logs_of(field).items():
        table[trace(field, field.times(one, element))][index * log % order] += 1
    return table


def gauss_table_above(tower, order, index):
    """The table of the Gauss sum above, by going through all elements of a tower."""
    field = tower.field
    table = [[0] * order for _ in range(field.prime)]
    logs = plain_classes.logs_of(field)
    for element in tower.members():
        if any(element):
            norm, low = tower.norm_of(element), tower.trace_of(element)
            table[trace(field, low)][index * logs[norm] % order] += 1
    return table
