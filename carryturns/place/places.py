"""Places over a prime number: the irreducible factors of cyclotomic polynomials modulo it."""

from math import gcd

from carryturns.base.factoring import factor_pairs
from carryturns.base.numbers import check_prime, count_units, first_powers, is_integer, order_modulo
from carryturns.base.rows import common_row, divide_rows, power_modulo, rest_row, trimmed
from carryturns.carry.carries import left_at_generator
from carryturns.errors import InvalidOperation, InvalidPlace, TooMany
from carryturns.field.fields import check_field, check_order
from carryturns.turn.rings import TurnRing, cyclotomic_entries
from carryturns.turn.turns import Turn, check_turn, check_turn_order, check_turning

MAX_PLACED = 12

MAX_PRIME = 512


def check_place(place):
    """Refuse what is no place."""
    if not isinstance(place, Place):
        raise InvalidPlace("no place")


def rest_entries(prime, entries):
    """The row of the entries modulo a prime."""
    return trimmed([entry % prime for entry in entries])


def cyclotomic_row(order, prime):
    """The cyclotomic polynomial of an order, modulo a prime."""
    return rest_entries(prime, cyclotomic_entries(order))


def turned_row(order, prime, poly, unit):
    """A row that is 0 at just those roots of the order whose powers with a unit are roots of a polynomial."""
    sums = [0] * order
    for at, entry in enumerate(poly):
        # Only for the orders 1 and 2 there is more than one entry for a place.
        place = at * unit % order
        sums[place] = sums[place] + entry
    return rest_entries(prime, sums)


def is_factor(order, prime, value):
    """Whether the value is an irreducible factor of a cyclotomic polynomial modulo a prime, and monic."""
    if order % prime == 0 or not isinstance(value, tuple):
        return False
    # All factors have one degree, so what has this degree and divides the polynomial is one of them.
    if len(value) != order_modulo(prime, order) + 1:
        return False
    if not all([is_integer(entry) and 0 <= entry < prime for entry in value]) or value[-1] != 1:
        return False
    return not rest_row(prime, cyclotomic_row(order, prime), value)


class Place:
    """A place. It never changes."""

    def __init__(self, order, prime, poly):
        check_turn_order(order)
        check_prime(prime, MAX_PRIME)
        if not is_factor(order, prime, poly):
            raise InvalidPlace("no polynomial of a place")
        self._order = order
        self._prime = prime
        self._poly = poly

    @property
    def order(self):
        """The order."""
        return self._order

    @property
    def prime(self):
        """The prime."""
        return self._prime

    @property
    def poly(self):
        """The entries of the polynomial, that of the power 0 first."""
        return self._poly

    @property
    def degree(self):
        """The degree of the polynomial."""
        return len(self._poly) - 1

    @property
    def size(self):
        """The prime to the power of the degree."""
        return first_powers(self._prime, len(self._poly) - 1)[-1]

    def leaves(self, turn):
        """The tuple of the residues that a turn number leaves."""
        self._check_turn_of(turn)
        rest = self._rest_of_entries(turn.entries)
        return rest + (0,) * (len(self._poly) - 1 - len(rest))

    def symbol(self, turn):
        """The exponent of the power of z that a power of a turn number leaves; None if it lies in the place."""
        self._check_turn_of(turn)
        self._check_degree()
        rest = self._rest_of_entries(turn.entries)
        if not rest:
            return None
        power = power_modulo(self._prime, rest, (self.size - 1) // self._order, self._poly)
        root = (1,)
        exponent = 0
        while root != power:
            root = rest_row(self._prime, (0,) + root, self._poly)
            exponent += 1
        return exponent

    def times_of(self, turn):
        """How many times a turn number is in the place."""
        self._check_turn_of(turn)
        if turn.is_zero:
            raise InvalidOperation("zero is in each place without end")
        self._check_degree()
        ring = TurnRing(self._order)
        others = self._others()
        entries = turn.entries
        many = 0
        # The other factors, divided by the prime, are once less in this place, and in no other one less.
        while not self._rest_of_entries(entries):
            entries = tuple([entry // self._prime for entry in ring.product(entries, others)])
            many += 1
        return many

    def turned_by(self, unit):
        """The place turned by a unit."""
        check_turning(unit, self._order)
        row = turned_row(self._order, self._prime, self._poly, unit)
        return Place(self._order, self._prime, common_row(self._prime, cyclotomic_row(self._order, self._prime), row))

    def _others(self):
        # The entries of the product of all other factors, as a turn number.
        row = divide_rows(self._prime, cyclotomic_row(self._order, self._prime), self._poly)[0]
        return row + (0,) * (count_units(self._order) - len(row))

    def _rest_of_entries(self, entries):
        return rest_row(self._prime, rest_entries(self._prime, entries), self._poly)

    def _check_turn_of(self, turn):
        check_turn(turn)
        if turn.order != self._order:
            raise InvalidOperation("a turn number of another order")

    def _check_degree(self):
        if len(self._poly) - 1 > MAX_PLACED:
            raise TooMany(MAX_PLACED)

    def __contains__(self, value):
        if not isinstance(value, Turn) or value.order != self._order:
            return False
        return not self._rest_of_entries(value.entries)

    def __eq__(self, other):
        if not isinstance(other, Place) or self._order != other.order or self._prime != other.prime:
            return False
        return self._poly == other.poly

    def __str__(self):
        return f"place {self._poly} over {self._prime} order {self._order}"


def check_not_dividing(order, prime):
    """Refuse what is no order, no prime up to 512, and a prime that divides the order."""
    check_turn_order(order)
    check_prime(prime, MAX_PRIME)
    if order % prime == 0:
        raise InvalidOperation("a prime that divides the order")


def places(order, prime):
    """The tuple of all places of an order over a prime, ascending by their polynomials."""
    check_not_dividing(order, prime)
    polys = sorted([factor for factor, _ in factor_pairs(prime, cyclotomic_row(order, prime))])
    return tuple([Place(order, prime, poly) for poly in polys])


def count_places(order, prime):
    """The number of all places of an order over a prime."""
    check_not_dividing(order, prime)
    return count_units(order) // order_modulo(prime, order)


def place_of_field(field, order):
    """The place whose polynomial is 0 at the power of the generator that z is put to."""
    check_field(field)
    check_order(field, order)
    log = (field.size - 1) // order
    poly = (1,)
    for power in first_powers(field.prime, order_modulo(field.prime, order) - 1):
        # One more factor: X, less a power of this element with a power of the prime as exponent.
        less = field.opposite(field.power_of(log * power))
        poly = tuple([field.plus(up, field.times(less, low)) for up, low in zip((0,) + poly, poly + (0,))])
    return Place(order, field.prime, poly)


def left_element(field, turn):
    """The element to which a turn number is led if z is put to a power of the generator."""
    return left_at_generator(field, turn)


def turning_to(place, other):
    """The least unit from 1 on by which a place is turned to another one."""
    check_place(place)
    check_place(other)
    if place.order != other.order or place.prime != other.prime:
        raise InvalidOperation("places of unlike orders or primes")
    for unit in range(1, place.order + 1):
        if gcd(unit, place.order) == 1:
            # The other polynomial divides the row just if its roots are those of the place, turned.
            row = turned_row(place.order, place.prime, place.poly, unit)
            if not rest_row(place.prime, row, other.poly):
                return unit
    return None
