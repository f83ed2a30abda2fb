"""Classes, tables and sums J in the plainest way, to hold the package against: by going through elements."""

import math

from carryturns.field.fields import Field
from tests import plain_turns

SMALL = ((2, 1), (3, 1), (2, 2), (5, 1), (7, 1), (2, 3), (3, 2), (11, 1), (13, 1), (2, 4), (17, 1), (19, 1), (5, 2))


def small_fields(most=25):
    """All fields up to a size, at most 25."""
    return [Field(prime, degree) for prime, degree in SMALL if prime ** degree <= most]


KNOWN_LOGS = {}


def logs_of(field, generator=None):
    """The dict from each element other than 0 to its log, by the powers of a generator one by one."""
    generator = field.generator if generator is None else generator
    if (field.size, generator) not in KNOWN_LOGS:
        found, power = {}, 1
        for log in range(field.size - 1):
            found[power] = log
            power = field.times(power, generator)
        assert len(found) == field.size - 1 and power == 1
        KNOWN_LOGS[field.size, generator] = found
    return KNOWN_LOGS[field.size, generator]


def table_of(field, order, generator=None):
    """The table, by going through all elements other than 0 and -1."""
    logs = logs_of(field, generator)
    rows = [[0] * order for _ in range(order)]
    for element in field:
        following = field.plus(element, 1)
        if element != 0 and following != 0:
            rows[logs[element] % order][logs[following] % order] += 1
    return tuple(map(tuple, rows))


def tuples_adding_up(field, many, goal):
    """A generator of all tuples of so many elements other than 0 whose sum is an element."""
    if many == 1:
        if goal != 0:
            yield (goal,)
    else:
        for element in range(1, field.size):
            for others in tuples_adding_up(field, many - 1, field.minus(goal, element)):
                yield (element,) + others


def sum_j(field, order, indices):
    """The entries of the sum J, by adding up over all tuples."""
    logs = logs_of(field)
    powers = {}
    for found in tuples_adding_up(field, len(indices), 1):
        exponent = sum(index * logs[element] for index, element in zip(indices, found)) % order
        powers[exponent] = powers.get(exponent, 0) + 1
    return plain_turns.entries_of(order, powers)


def sign(field, order, index):
    """The value at -1 of a character, by the log of -1."""
    log = logs_of(field)[field.minus(0, 1)]
    assert 2 * index * log % order == 0
    return 1 if index * log % order == 0 else -1


def units(order):
    """The units modulo an order, from 1 on."""
    return [unit for unit in range(1, order + 1) if math.gcd(unit, order) == 1]
