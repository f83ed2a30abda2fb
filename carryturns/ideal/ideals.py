"""Ideals of turn numbers, told by their least rows; and those of sums J."""

from math import gcd

from carryturns.base.lattices import has_least_form, is_told, least_rows, rows_led_into, shared_rows
from carryturns.base.numbers import check_count, count_units, digits_of, is_integer, is_prime
from carryturns.base.rows import multiply_rows
from carryturns.carry.carries import row_of_carries
from carryturns.errors import (
    InvalidCharacter, InvalidIdeal, InvalidOperation, InvalidOrder, InvalidTurn, TooMany,
)
from carryturns.field.fields import check_field, check_order
from carryturns.place.places import check_place, place_of_field, places
from carryturns.table.tables import is_table
from carryturns.turn.rings import TurnRing
from carryturns.turn.texts import number_text
from carryturns.turn.turns import Turn, check_turning, is_turn_order, made_turn

MAX_RANK = 8
MAX_PARTED = 10 ** 12

MAX_MEMBERS = 8
MAX_LIFTED = 20
MAX_PRIME = 512


def is_ideal_order(value):
    """Whether the value is an order with at most eight units."""
    return is_turn_order(value) and count_units(value) <= MAX_RANK


def check_ideal_order(order):
    """Refuse what is no order with at most eight units."""
    if not is_ideal_order(order):
        raise InvalidOrder("no order with at most eight units")


def check_ideal(ideal):
    """Refuse what is no ideal."""
    if not isinstance(ideal, Ideal):
        raise InvalidIdeal("no ideal")


def product_of(numbers):
    """The product of integers."""
    product = 1
    for number in numbers:
        product = product * number
    return product


def size_of_rows(rows):
    """The product of the diagonals of least rows."""
    return product_of([row[at] for at, row in enumerate(rows)])


def multiples_of(order, entries):
    """The list of the entries of a turn number, times each power of z that is an entry's place."""
    ring = TurnRing(order)
    return [ring.rolled(entries, at) for at in range(len(entries))]


def are_rows_of_ideal(order, value):
    """Whether the value are the least rows of an ideal, with integers of at most sixty digits."""
    width = count_units(order)
    if not is_table(width, value) or not has_least_form(width, value):
        return False
    size = size_of_rows(value)
    ring = TurnRing(order)
    root = ring.root(1)
    return all([is_told(value, ring.product(root, row), size) for row in value])


def made_ideal(order, rows):
    """The ideal with least rows that may have more digits than those that are passed."""
    ideal = Ideal(1, ((1,),))
    ideal._order = order
    ideal._rows = rows
    ideal._size = size_of_rows(rows)
    return ideal


def ideal_with(order, entries, number):
    """The ideal of which some entries are all sums, with a number above 0 that is a member."""
    return made_ideal(order, least_rows(count_units(order), entries, number))


class Ideal:
    """An ideal. It never changes."""

    def __init__(self, order, rows):
        check_ideal_order(order)
        if not are_rows_of_ideal(order, rows):
            raise InvalidIdeal("no least rows of an ideal")
        self._order = order
        self._rows = rows
        self._size = size_of_rows(rows)

    @property
    def order(self):
        """The order."""
        return self._order

    @property
    def rows(self):
        """The tuple of the least rows."""
        return self._rows

    @property
    def size(self):
        """The product of the diagonals."""
        return self._size

    def multiplied(self, other):
        """The product."""
        self._check_other(other)
        ring = TurnRing(self._order)
        products = [ring.product(one, row) for one in self._rows for row in other.rows]
        return ideal_with(self._order, products, self._size * other.size)

    def joined(self, other):
        """The least ideal that has all members of both."""
        self._check_other(other)
        return ideal_with(self._order, self._rows + other.rows, self._size)

    def shared(self, other):
        """The ideal of what is in both."""
        self._check_other(other)
        return made_ideal(self._order, shared_rows(self._rows, other.rows, self._size * other.size))

    def parted(self, other):
        """The ideal whose product with the other one is this one, or None."""
        self._check_other(other)
        if not self._is_in(other):
            return None
        # All turn numbers whose products with each member of the other one are in this one.
        ring = TurnRing(self._order)
        rows = whole_ideal(self._order).rows
        for member in other.rows:
            images = [ring.product(row, member) for row in rows]
            if not all([is_told(self._rows, image, self._size) for image in images]):
                rows = rows_led_into(rows, images, self._rows, self._size)
        return made_ideal(self._order, rows)

    def is_within(self, other):
        """Whether the other one has all members of this one."""
        self._check_other(other)
        return self._is_in(other)

    def lifted_by(self, many):
        """The power with an exponent from 0 to 20."""
        check_count(many, 0, MAX_LIFTED)
        if many == 0:
            return whole_ideal(self._order)
        power = self
        # From the second digit of the exponent to the base 2 on.
        for digit in reversed(digits_of(many, 2)[:-1]):
            power = power.multiplied(power)
            if digit == 1:
                power = power.multiplied(self)
        return power

    def moved(self, unit):
        """The ideal turned by a unit."""
        check_turning(unit, self._order)
        ring = TurnRing(self._order)
        return ideal_with(self._order, [ring.turned_by(row, unit) for row in self._rows], self._size)

    def _is_in(self, other):
        return all([is_told(other.rows, row, other.size) for row in self._rows])

    def _check_other(self, other):
        check_ideal(other)
        if other.order != self._order:
            raise InvalidOperation("ideals of unlike orders")

    def __contains__(self, value):
        if not isinstance(value, Turn) or value.order != self._order:
            return False
        return is_told(self._rows, value.entries, self._size)

    def __len__(self):
        return len(self._rows)

    def __iter__(self):
        return iter(self._rows)

    def __eq__(self, other):
        return isinstance(other, Ideal) and self._order == other.order and self._rows == other.rows

    def __str__(self):
        return f"{rows_text(self._rows)} of order {self._order}"


def rows_text(rows):
    """The text of rows, one behind the other."""
    return "/".join([" ".join([number_text(entry) for entry in row]) for row in rows])


def whole_ideal(order):
    """The ideal of all turn numbers of an order."""
    check_ideal_order(order)
    return ideal_with(order, [], 1)


def made_by(order, turns):
    """The ideal of some turn numbers, not all of them zero."""
    common = 0
    for turn in turns:
        common = gcd(common, turn.norm())
    return ideal_with(order, [row for turn in turns for row in multiples_of(order, turn.entries)], common)


def ideal_of(order, members):
    """The ideal of a tuple of one to eight turn numbers."""
    check_ideal_order(order)
    if not isinstance(members, tuple) or not 1 <= len(members) <= MAX_MEMBERS:
        raise InvalidTurn("no tuple of one to eight turn numbers")
    if not all([isinstance(turn, Turn) and turn.order == order for turn in members]):
        raise InvalidTurn("no tuple of turn numbers of the order")
    if all([turn.is_zero for turn in members]):
        raise InvalidOperation("zero alone makes no ideal")
    return made_by(order, members)


def ideal_of_factor(order, prime, row):
    """The ideal of a prime and of a factor of the cyclotomic polynomial modulo it, put at z."""
    width = count_units(order)
    maker = TurnRing(order).reduced(row + (0,) * (width - len(row)))
    return ideal_with(order, multiples_of(order, maker), prime)


def ideal_of_place(place):
    """The ideal of a place."""
    check_place(place)
    if count_units(place.order) > MAX_RANK:
        raise InvalidOperation("an order with more than eight units")
    return ideal_of_factor(place.order, place.prime, place.poly)


def times_in(ideal, place):
    """How often a place is in an ideal: as often as in each of its rows, at least."""
    many = None
    for row in ideal.rows:
        # It cannot be less than 0.
        if many is None or many > 0:
            told = place.times_of(made_turn(ideal.order, None, row))
            many = told if many is None else min(many, told)
    return many


def places_in(ideal):
    """The tuple of the pairs of a place and of how often it is in an ideal."""
    check_ideal(ideal)
    if gcd(ideal.size, ideal.order) > 1:
        raise InvalidOperation("a size with a common divisor with the order")
    if ideal.size > MAX_PARTED:
        raise TooMany(MAX_PARTED)
    left = ideal.size
    primes = []
    for number in range(2, MAX_PRIME + 1):
        if left % number == 0:
            primes.append(number)
        while left % number == 0:
            left = left // number
    if left > 1:
        raise TooMany(MAX_PRIME)
    pairs = [(place, times_in(ideal, place)) for prime in primes for place in places(ideal.order, prime)]
    return tuple([(place, many) for place, many in pairs if many > 0])


def is_maker(ideal, value):
    """Whether the value is a turn number whose ideal this one is."""
    check_ideal(ideal)
    # All products of a member are members; there are no others if both sizes are equal.
    return value in ideal and abs(value.norm()) == ideal.size


def check_total(field, order, one, other):
    """Refuse what is no field, no order of it with at most eight units, and indices that are not proper."""
    check_field(field)
    check_ideal_order(order)
    check_order(field, order)
    for index in (one, other):
        if not is_integer(index) or not 1 <= index < order:
            raise InvalidCharacter("no index from 1 to the order less 1")
    if one + other == order:
        raise InvalidOperation("indices that add up to the order")


def carries_by_place(field, order, one, other):
    """The dict from the polynomials of all places over the prime to how often carries tell them."""
    place = place_of_field(field, order)
    carries = row_of_carries(field, order, one, other)
    backs = {unit: back for unit in carries for back in carries if (unit * back - 1) % order == 0}
    # Units that differ by a power of the prime turn the place alike, and have as many carries.
    return {place.turned_by(backs[unit]).poly: carries[unit] for unit in carries}


def total_ideal(field, order, one, other):
    """The ideal of the sum J of two indices, by their carries."""
    times = carries_by_place(field, order, one, other)
    product = whole_ideal(order)
    for least in range(1, field.degree + 1):
        # The ideals of different places have the ideal of the product of their polynomials as product.
        row = (1,)
        for poly in times:
            if times[poly] >= least:
                row = multiply_rows(field.prime, row, poly)
        product = product.multiplied(ideal_of_factor(order, field.prime, row))
    return product


def jacobi_ideal(field, order, one, other):
    """The ideal of the sum J of two proper indices, by their carries."""
    check_total(field, order, one, other)
    return total_ideal(field, order, one, other)


def is_only_total(field, order, one, other, value):
    """Whether the value has the three properties of a sum J, for an odd prime order."""
    check_total(field, order, one, other)
    if order == 2 or not is_prime(order):
        raise InvalidOperation("no odd prime order")
    if not isinstance(value, Turn) or value.order != order:
        return False
    if value.times(value.mirrored()) != Turn.whole(order, field.size):
        return False
    near = Turn.whole(order, 1).minus(Turn.power(order, 1)).raised(2)
    if value.plus(Turn.whole(order, 1)) not in made_by(order, (near,)):
        return False
    return is_maker(total_ideal(field, order, one, other), value)
