"""Symbols of turn numbers over one another, for the orders 3, 4, 5 and 7."""

from math import gcd, isqrt

from carryturns.base.numbers import count_units, first_powers, order_modulo
from carryturns.base.rows import common_row, divide_rows, power_modulo, rest_row, subtract_rows
from carryturns.errors import InvalidOperation, InvalidOrder, TooMany
from carryturns.place.places import cyclotomic_row, rest_entries
from carryturns.turn.rings import TurnRing
from carryturns.turn.turns import Turn, check_turn

MUTUAL_ORDERS = (3, 4, 5, 7)
MAX_PARTED = 10 ** 12

# The product of three primes above this is above MAX_PARTED.
MAX_SMALL = 10000


def check_mutual(turns):
    """Refuse what are no turn numbers of one of these orders."""
    for turn in turns:
        check_turn(turn)
    order = turns[0].order
    if order not in MUTUAL_ORDERS:
        raise InvalidOrder("none of the orders 3, 4, 5 and 7")
    if any([turn.order != order for turn in turns]):
        raise InvalidOperation("turn numbers of unlike orders")


def has_odd_norm(turn):
    """Whether the norm has no common divisor above 1 with the order."""
    return gcd(turn.norm(), turn.order) == 1


def is_near(order, entries):
    """Whether entries are those of a turn number near one, if it is odd."""
    if order == 4:
        return entries[1] % 2 == 0 and (entries[0] + entries[1] - 1) % 4 == 0
    return sum([at * entry for at, entry in enumerate(entries)]) % order == 0


def is_odd(turn):
    """Whether a turn number is odd."""
    check_mutual((turn,))
    return has_odd_norm(turn)


def is_near_one(turn):
    """Whether a turn number is odd and near one."""
    check_mutual((turn,))
    return has_odd_norm(turn) and is_near(turn.order, turn.entries)


def near_power(turn):
    """The exponent of the power of z that makes an odd turn number near one."""
    check_mutual((turn,))
    if not has_odd_norm(turn):
        raise InvalidOperation("a turn number that is not odd")
    order = turn.order
    found = [many for many in range(order) if is_near(order, turn.times(Turn.power(order, many)).entries)]
    return found[0]


def primes_in(norm, order):
    """The list of the primes that divide the norm, from 1 to 10 ** 12, of an odd turn number."""
    primes = []
    number = 2
    while number <= MAX_SMALL and number * number <= norm:
        if norm % number == 0:
            primes.append(number)
            while norm % number == 0:
                norm = norm // number
        number += 1 if number == 2 else 2
    if norm > 1 and number * number > norm:
        return primes + [norm]
    return primes + great_primes_in(norm, order)


def great_primes_in(norm, order):
    """The list of the primes that divide what is left of a norm without all small ones."""
    root = isqrt(norm)
    if root * root == norm:
        return [root] if root > 1 else []
    # Two different primes, or one: a prime that divides a norm just once leaves 1 by the order.
    step = order if order % 2 == 0 else 2 * order
    for number in range(MAX_SMALL // step * step + 1, root + 1, step):
        if norm % number == 0:
            return [number, norm // number]
    return [norm]


def symbol_in(order, prime, part, row):
    """The sum of the symbols of a row at the places whose polynomials a part is the product of.

    It is None if the row leaves 0 at one of them.
    """
    if len(common_row(prime, part, row)) > 1:
        return None
    degree = order_modulo(prime, order)
    power = power_modulo(prime, row, (first_powers(prime, degree)[-1] - 1) // order, part)
    total = 0
    root = (1,)
    for symbol in range(order):
        # Just at the places with this symbol the power leaves what this power of z leaves.
        common = common_row(prime, part, subtract_rows(prime, power, root))
        total += symbol * ((len(common) - 1) // degree)
        root = rest_row(prime, (0,) + root, part)
    return total


def symbol_over_prime(order, prime, entries, over):
    """The sum of the symbols at all places over a prime, each as often as it is in the other turn number.

    It is None if the turn number leaves 0 at one of them.
    """
    ring = TurnRing(order)
    row = rest_entries(prime, entries)
    whole = cyclotomic_row(order, prime)
    part = common_row(prime, whole, rest_entries(prime, over))
    total = 0
    while len(part) > 1:
        symbol = symbol_in(order, prime, part, row)
        if symbol is None:
            return None
        total += symbol
        # Multiplied by all other factors, and divided by the prime, it is once less in these places.
        others = divide_rows(prime, whole, part)[0]
        others = others + (0,) * (count_units(order) - len(others))
        over = tuple([entry // prime for entry in ring.product(over, others)])
        part = common_row(prime, part, rest_entries(prime, over))
    return total


def symbol_over(one, other):
    """The symbol of a turn number over another one, or None if it leaves 0 at a place of the other one."""
    check_mutual((one, other))
    order = one.order
    norm = abs(other.norm())
    if gcd(norm, order) != 1:
        raise InvalidOperation("a turn number that is not odd")
    if norm > MAX_PARTED:
        raise TooMany(MAX_PARTED)
    symbols = [symbol_over_prime(order, prime, one.entries, other.entries) for prime in primes_in(norm, order)]
    if None in symbols:
        return None
    return sum(symbols) % order


def check_reciprocal(one, other):
    """Refuse turn numbers of which reciprocity tells nothing."""
    if not has_odd_norm(one) or not has_odd_norm(other):
        raise InvalidOperation("a turn number that is not odd")
    if not is_near(one.order, other.entries):
        raise InvalidOperation("a turn number that is not near one")
    if one.order in (3, 4):
        if not is_near(one.order, one.entries):
            raise InvalidOperation("a turn number that is not near one")
    elif any(one.entries[1:]):
        raise InvalidOperation("no integer")


def differ_by(one, other):
    """The difference of both symbols, modulo the order, that reciprocity tells: 0 or 2."""
    check_mutual((one, other))
    check_reciprocal(one, other)
    if one.order == 4 and (one.norm() - 1) // 4 % 2 == 1 and (other.norm() - 1) // 4 % 2 == 1:
        return 2
    return 0
