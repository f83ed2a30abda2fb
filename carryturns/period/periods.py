"""Periods: sums of the elements of classes, put in a ring by the table of the classes."""

from math import gcd

from carryturns.base.newton import determinant_of, entries_of_sums, sums_of_entries
from carryturns.base.numbers import check_count, check_integer, check_prime, digits_of, is_integer
from carryturns.base.residues import row_factors
from carryturns.errors import InvalidOperation, InvalidPeriod, InvalidPolynomial, TooMany
from carryturns.field.fields import check_field, check_order, opposite_class
from carryturns.table.tables import class_table, is_table

MAX_RAISED = 20

MAX_JUDGED_ORDER = 8
MAX_POLYNOMIAL = 25
MAX_PART_PRIME = 512


def first_products(field, order, table):
    """The tuple of the products of h(0) with all h(k), by the rule that a table makes."""
    many = (field.size - 1) // order
    shift = opposite_class(field, order)
    rows = []
    for at, row in enumerate(table):
        # One has all entries -1, so n times one takes n away from each entry.
        less = many if at == shift else 0
        rows.append(tuple([entry - less for entry in row]))
    return tuple(rows)


def moved_by(period, number):
    """The period that has at the index i + number what the period has at i."""
    start = -number % len(period)
    return period[start:] + period[:start]


def product_by(products, one, other):
    """The product of two periods, told by the products of h(0)."""
    order = len(one)
    sums = [0] * order
    for at, first in enumerate(one):
        for step, second in enumerate(moved_by(other, -at)):
            factor = first * second
            if factor != 0:
                row = moved_by(products[step], at)
                sums = [total + factor * entry for total, entry in zip(sums, row)]
    return tuple(sums)


def single_period(order, index):
    """The period h(index)."""
    return tuple([1 if at == index else 0 for at in range(order)])


def is_ring(products):
    """Whether products of h(0) make a commuting ring in which one has all entries -1."""
    order = len(products)
    singles = [single_period(order, index) for index in range(order)]
    first = singles[0]
    # What holds of h(0) and others holds of all that are moved from them.
    if any([product_by(products, single, first) != row for single, row in zip(singles, products)]):
        return False
    for one, row in zip(singles, products):
        for other in singles:
            if product_by(products, row, other) != product_by(products, first, product_by(products, one, other)):
                return False
    return product_by(products, (-1,) * order, first) == first


def check_ring(ring):
    """Refuse what is no ring of periods."""
    if not isinstance(ring, PeriodRing):
        raise InvalidPeriod("no ring of periods")


class PeriodRing:
    """The ring of the periods of a field and an order. It never changes."""

    def __init__(self, field, order):
        check_field(field)
        check_order(field, order)
        self._field = field
        self._order = order
        self._one = (-1,) * order
        self._table = class_table(field, order)
        self._products = first_products(field, order, self._table)
        self._poly = self.poly_of(single_period(order, 0))

    @property
    def field(self):
        """The field."""
        return self._field

    @property
    def order(self):
        """The order."""
        return self._order

    @property
    def one(self):
        """The period by which each one is multiplied to itself."""
        return self._one

    @property
    def table(self):
        """The table of the field and the order."""
        return self._table

    @property
    def poly(self):
        """The polynomial of the ring, the entry of the power 0 first."""
        return self._poly

    def single(self, index):
        """The period h(index)."""
        check_count(index, 0, self._order - 1)
        return single_period(self._order, index)

    def plus(self, one, other):
        """The sum of two periods."""
        self._check_period(one)
        self._check_period(other)
        return tuple([first + second for first, second in zip(one, other)])

    def times(self, one, other):
        """The product of two periods."""
        self._check_period(one)
        self._check_period(other)
        return product_by(self._products, one, other)

    def scaled(self, period, number):
        """The period with each entry multiplied by an integer."""
        self._check_period(period)
        check_integer(number)
        return tuple([entry * number for entry in period])

    def moved(self, period, number):
        """The period moved by a number."""
        self._check_period(period)
        check_integer(number)
        return moved_by(period, number)

    def raised(self, period, many):
        """The power of a period with an exponent from 0 to 20."""
        self._check_period(period)
        check_count(many, 0, MAX_RAISED)
        if many == 0:
            return self._one
        power = period
        # From the second digit of the exponent to the base 2 on.
        for digit in reversed(digits_of(many, 2)[:-1]):
            power = product_by(self._products, power, power)
            if digit == 1:
                power = product_by(self._products, power, period)
        return power

    def matrix_of(self, period):
        """The tuple of the products of all h(i) with a period."""
        self._check_period(period)
        singles = [single_period(self._order, index) for index in range(self._order)]
        return tuple([product_by(self._products, single, period) for single in singles])

    def poly_of(self, period):
        """The polynomial of a period, the entry of the power 0 first."""
        matrix = self.matrix_of(period)
        # The sum of the powers of the roots is the trace of the power of the period.
        power = period
        sums = [-sum(power)]
        for _ in range(self._order - 1):
            power = [sum([entry * row[at] for entry, row in zip(power, matrix)]) for at in range(self._order)]
            sums.append(-sum(power))
        return tuple(entries_of_sums(sums)[::-1])

    def trace_of(self, period):
        """The trace of a period."""
        self._check_period(period)
        return -sum(period)

    def _check_period(self, period):
        if not isinstance(period, tuple) or len(period) != self._order:
            raise InvalidPeriod("no tuple of as many integers as the order")
        if not all([is_integer(entry) for entry in period]):
            raise InvalidPeriod("no tuple of integers")

    def __len__(self):
        return len(self._one)

    def __eq__(self, other):
        return isinstance(other, PeriodRing) and self._field == other._field and self._order == other._order

    def __str__(self):
        return f"periods of {self._field.size} by {self._order}"


def is_period_table(field, order, value):
    """Whether the value, put for the table, makes a commuting ring."""
    check_field(field)
    check_order(field, order)
    if order > MAX_JUDGED_ORDER:
        raise TooMany(MAX_JUDGED_ORDER)
    return is_table(order, value) and is_ring(first_products(field, order, value))


def discriminant(poly):
    """The product of the squares of all differences of two roots of a polynomial."""
    if not isinstance(poly, tuple) or not 2 <= len(poly) <= MAX_POLYNOMIAL:
        raise InvalidPolynomial("no tuple of 2 to 25 integers")
    if not all([is_integer(entry) for entry in poly]) or poly[-1] != 1:
        raise InvalidPolynomial("no tuple of integers of which the last one is 1")
    degree = len(poly) - 1
    # It is the square of the determinant of the powers of the roots, and so that of their sums.
    sums = [degree] + sums_of_entries(poly[::-1], 2 * degree - 2)
    return determinant_of([sums[at:at + degree] for at in range(degree)])


def check_parts(ring, prime):
    """Refuse what is no ring of periods, and no prime up to 512."""
    check_ring(ring)
    check_prime(prime, MAX_PART_PRIME)


def parts_modulo(ring, prime):
    """The ascending tuple of the degrees of the parts of the polynomial of a ring modulo a prime."""
    check_parts(ring, prime)
    row = tuple([entry % prime for entry in ring.poly])
    degrees = []
    for factor, many in row_factors(prime, row):
        degrees.extend([len(factor) - 1] * many)
    return tuple(sorted(degrees))


def degree_told(ring, prime):
    """The degree of the parts of the polynomial of a ring modulo a prime, told by classes alone."""
    check_parts(ring, prime)
    field = ring.field
    if field.degree != 1 or field.prime == prime:
        raise InvalidOperation("no prime field, or its own prime")
    return ring.order // gcd(ring.order, field.class_of(prime % field.prime, ring.order))
