"""Carries of additions that go round: what they tell of the sums J of a field."""

from math import gcd

from carryturns.base.numbers import binomial_rest, check_count, digits_of, is_integer, units_of
from carryturns.errors import InvalidCharacter, InvalidCount, InvalidOperation, InvalidOrder
from carryturns.field.fields import check_field, check_order
from carryturns.total.totals import is_index
from carryturns.turn.turns import check_turn


def check_indices_of(field, order, indices):
    """Refuse what is no field, no order of it, and no index."""
    check_field(field)
    check_order(field, order)
    for index in indices:
        if not is_index(order, index):
            raise InvalidCharacter("no index from 0 to the order less 1")


def check_proper(order, a, b):
    """Refuse indices of which one, or the sum, is a multiple of the order."""
    if a == 0 or b == 0 or a + b == order:
        raise InvalidOperation("an index, or the sum, that the order divides")


def check_logs(field, one, other):
    """Refuse what is no field, and no integers from 0 to q - 2."""
    check_field(field)
    check_count(one, 0, field.size - 2)
    check_count(other, 0, field.size - 2)


def padded_digits(number, prime, degree):
    """The digits of an integer, with zeros behind them."""
    digits = digits_of(number, prime)
    return digits + (0,) * (degree - len(digits))


def carries_between(field, one, other):
    """The list of the carries of two integers from 0 to q - 2."""
    both = one + other
    # A sum of at least q - 1 goes round with 1, and then has just this rest by q - 1.
    carry = 1 if both >= field.size - 1 else 0
    found = []
    firsts = padded_digits(one, field.prime, field.degree)
    seconds = padded_digits(other, field.prime, field.degree)
    for first, second in zip(firsts, seconds):
        found.append(carry)
        carry = (first + second + carry) // field.prime
    return found


def rest_at(field, order, index, unit):
    """The rest of -unit * index * n by q - 1."""
    return -unit * index * ((field.size - 1) // order) % (field.size - 1)


def row_of_carries(field, order, a, b):
    """The dict from all units modulo the order to the numbers of the carries."""
    row = {}
    for unit in units_of(order):
        row[unit] = sum(carries_between(field, rest_at(field, order, a, unit), rest_at(field, order, b, unit)))
    return row


def carries_of(field, one, other):
    """The tuple of the carries of two integers."""
    check_logs(field, one, other)
    return tuple(carries_between(field, one, other))


def count_carries(field, one, other):
    """The number of the carries of two integers."""
    check_logs(field, one, other)
    return sum(carries_between(field, one, other))


def rest_of(field, order, a, unit):
    """The integer that belongs to an index and to a unit modulo the order."""
    check_indices_of(field, order, (a,))
    if not is_integer(unit) or not 0 <= unit < order or gcd(unit, order) != 1:
        raise InvalidCount(unit)
    return rest_at(field, order, a, unit)


def carry_row(field, order, a, b):
    """The dict from all units modulo the order to the numbers of the carries of two indices."""
    check_indices_of(field, order, (a, b))
    return row_of_carries(field, order, a, b)


def least_carries(field, order, a, b):
    """The least number of a carry row, for proper indices."""
    check_indices_of(field, order, (a, b))
    check_proper(order, a, b)
    return min(list(row_of_carries(field, order, a, b).values()))


def left_at_generator(field, turn):
    """The element that a turn number leaves if z is put to a power of the generator."""
    check_field(field)
    check_turn(turn)
    if turn.order not in field.orders:
        raise InvalidOrder("a turn number of no order of the field")
    step = (field.size - 1) // turn.order
    total = 0
    for at, entry in enumerate(turn.entries):
        total = field.plus(total, field.times(entry % field.prime, field.power_of(at * step)))
    return total


def binomial_left(field, order, a, b):
    """The element that the sum J of proper indices leaves, told by a binomial coefficient."""
    check_indices_of(field, order, (a, b))
    check_proper(order, a, b)
    one = rest_at(field, order, a, 1)
    both = one + rest_at(field, order, b, 1)
    if both >= field.size - 1:
        return 0
    return -binomial_rest(field.prime, both, one) % field.prime


def prime_power_in(field, turn):
    """The exponent of the greatest power of p by which a turn number can be divided; None for zero."""
    check_field(field)
    check_turn(turn)
    if turn.is_zero:
        return None
    return turn.content(field.prime)
