"""Turn numbers: sums of integers times powers of a root of unity."""

from math import gcd

from carryturns.base.numbers import MAX_FACTORED, check_count, check_integer, check_prime, is_integer
from carryturns.errors import InvalidCount, InvalidOperation, InvalidOrder, InvalidTurn, ParseError
from carryturns.turn.rings import TurnRing, cyclotomic_entries, lifted_entries, lowered_entries, width_of
from carryturns.turn.texts import entries_in, entries_text, number_in

MAX_ORDER = 60
MAX_POWER = 60


def is_turn_order(value):
    """Whether the value is an order of turn numbers."""
    return is_integer(value) and 1 <= value <= MAX_ORDER


def check_turn_order(order):
    """Refuse what is no order of turn numbers."""
    if not is_turn_order(order):
        raise InvalidOrder("no order from 1 to 60")


def check_turn(turn):
    """Refuse what is no turn number."""
    if not isinstance(turn, Turn):
        raise InvalidTurn("no turn number")


def check_turning(unit, order):
    """Refuse what is no integer without a common divisor above 1 with the order."""
    check_integer(unit)
    if gcd(unit, order) != 1:
        raise InvalidCount(unit)


def is_entries(order, value):
    """Whether the value is a tuple of as many integers as the order has units."""
    if not isinstance(value, tuple) or len(value) != width_of(order):
        return False
    return all([is_integer(entry) for entry in value])


def made_turn(order, ring, entries):
    """The turn number with entries that may have more digits than those that are passed.

    The ring of the order is passed on if it is known, and None otherwise.
    """
    turn = Turn(1, (0,))
    turn._order = order
    turn._ring = ring
    turn._entries = entries
    return turn


def turn_of_sums(order, sums):
    """The turn number that is a sum of powers of z, told by a list of how often each power is there."""
    ring = TurnRing(order)
    return made_turn(order, ring, ring.reduced(sums))


def stepped_sum(order, turns, step):
    """The sum of turn numbers, each multiplied by z to the power of its index times a step."""
    sums = [0] * order
    for index, turn in enumerate(turns):
        for at, entry in enumerate(turn.entries):
            sums[(index * step + at) % order] += entry
    return turn_of_sums(order, sums)


def integer_in(turn, divisor):
    """The integer that a turn number is, divided by an integer."""
    value, *others = turn.entries
    if any(others) or value % divisor != 0:
        raise InvalidOperation("no integer")
    return value // divisor


def cyclotomic(order):
    """The tuple of the entries of the cyclotomic polynomial of an order, that of the power 0 first."""
    check_turn_order(order)
    return cyclotomic_entries(order)


class Turn:
    """A turn number. It never changes."""

    def __init__(self, order, entries):
        check_turn_order(order)
        if not is_entries(order, entries):
            raise InvalidTurn("no tuple of as many integers as the order has units")
        self._order = order
        self._ring = None
        self._entries = entries

    @classmethod
    def power(cls, order, many):
        """The power of z with an exponent, perhaps below 0."""
        check_turn_order(order)
        check_integer(many)
        ring = TurnRing(order)
        return made_turn(order, ring, ring.root(many))

    @classmethod
    def whole(cls, order, integer):
        """An integer as a turn number."""
        check_turn_order(order)
        check_integer(integer)
        ring = TurnRing(order)
        return made_turn(order, ring, ring.whole_entries(integer))

    @classmethod
    def read(cls, text):
        """The turn number whose text this is."""
        if not isinstance(text, str):
            raise ParseError(0)
        terms, _, last = text.partition(" order ")
        order = number_in(last)
        if order is None or not is_turn_order(order):
            raise ParseError(0)
        entries = entries_in(terms, width_of(order))
        if entries is None or text != f"{entries_text(entries)} order {order}":
            raise ParseError(0)
        return cls(order, entries)

    @property
    def order(self):
        """The order."""
        return self._order

    @property
    def entries(self):
        """The tuple of the entries, that of the power 0 first."""
        return self._entries

    @property
    def is_zero(self):
        """Whether this is 0."""
        return not any(self._entries)

    def plus(self, other):
        """The sum."""
        self._check_other(other)
        return self._made(tuple([first + second for first, second in zip(self._entries, other.entries)]))

    def minus(self, other):
        """The difference."""
        self._check_other(other)
        return self._made(tuple([first - second for first, second in zip(self._entries, other.entries)]))

    def times(self, other):
        """The product."""
        self._check_other(other)
        return self._made(self._reckoner().product(self._entries, other.entries))

    def scaled(self, number):
        """The product with an integer."""
        check_integer(number)
        return self._made(tuple([entry * number for entry in self._entries]))

    def opposite(self):
        """The product with -1."""
        return self._made(tuple([-entry for entry in self._entries]))

    def raised(self, many):
        """The power with an exponent from 0 to 60."""
        check_count(many, 0, MAX_POWER)
        return self._made(self._reckoner().powered(self._entries, many))

    def turned(self, unit):
        """The turn number with z ** unit in the place of z."""
        check_turning(unit, self._order)
        return self._made(self._reckoner().turned_by(self._entries, unit))

    def mirrored(self):
        """The opposite turn."""
        return self._made(self._reckoner().turned_by(self._entries, -1))

    def norm(self):
        """The product, turned by all units, as an integer."""
        return self._reckoner().cofactor_and_norm(self._entries)[1]

    def trace(self):
        """The sum, turned by all units, as an integer."""
        return self._reckoner().traced(self._entries)[0]

    def is_unit(self):
        """Whether this divides 1."""
        return self.norm() in (1, -1)

    def divided(self, other):
        """The turn number whose product with the other one is this one, or None."""
        self._check_other(other)
        if other.is_zero:
            raise InvalidOperation("a quotient by 0")
        ring = self._reckoner()
        cofactor, norm = ring.cofactor_and_norm(other.entries)
        entries = ring.product(self._entries, cofactor)
        if any([entry % norm != 0 for entry in entries]):
            return None
        return self._made(tuple([entry // norm for entry in entries]))

    def content(self, prime):
        """How often a prime divides all entries."""
        check_prime(prime, MAX_FACTORED)
        if self.is_zero:
            raise InvalidOperation("each power divides 0")
        many = 0
        entries = self._entries
        while all([entry % prime == 0 for entry in entries]):
            entries = [entry // prime for entry in entries]
            many += 1
        return many

    def lifted(self, order):
        """This turn number as one of a multiple of its order."""
        check_turn_order(order)
        if order % self._order != 0:
            raise InvalidOrder("no multiple of the order")
        return made_turn(order, None, lifted_entries(self._order, self._entries, order))

    def lowered(self, order):
        """The turn number of a divisor of the order which is this one when it is lifted, or None."""
        check_turn_order(order)
        if self._order % order != 0:
            raise InvalidOrder("no divisor of the order")
        entries = lowered_entries(self._order, self._entries, order)
        if entries is None:
            return None
        return made_turn(order, None, entries)

    def _check_other(self, other):
        check_turn(other)
        if other.order != self._order:
            raise InvalidOperation("turn numbers of unlike orders")

    def _reckoner(self):
        # Many turn numbers are made that are only added, or only told.
        if self._ring is None:
            self._ring = TurnRing(self._order)
        return self._ring

    def _made(self, entries):
        return made_turn(self._order, self._ring, entries)

    def __eq__(self, other):
        return isinstance(other, Turn) and self._order == other._order and self._entries == other._entries

    def __str__(self):
        return f"{entries_text(self._entries)} order {self._order}"
