"""Polynomials over a field whose entries are codes, reckoned with by tables; nothing is checked here.

An element of a tower is a tuple of codes, that of the power 0 first. This is for towers of two or
more folds, whose fields are small enough for tables of all their sums and products.
"""

from carryturns.base.numbers import digits_of, first_powers, prime_powers
from carryturns.field.lists import products_with, sums_with


class CodeTables:
    """The sums and the products of all elements of a field."""

    def __init__(self, field):
        self._sums = [sums_with(field, one) for one in field]
        self._products = [products_with(field, one) for one in field]
        self._minus = field.opposite(1)
        self._many = field.size

    def rest_of(self, row, monic):
        """What a row leaves when it is divided by a monic one."""
        degree = len(monic) - 1
        rest = list(row)
        for at in reversed(range(degree, len(row))):
            if rest[at] != 0:
                line = self._products[self._products[rest[at]][self._minus]]
                for to in range(degree):
                    place = at - degree + to
                    rest[place] = self._sums[rest[place]][line[monic[to]]]
        return tuple(rest[:degree])

    def product_of(self, one, other, monic):
        """What the product of two rows leaves when it is divided by a monic one."""
        found = [0] * (len(one) + len(other) - 1)
        for at, first in enumerate(one):
            if first != 0:
                line = self._products[first]
                for to, second in enumerate(other):
                    found[at + to] = self._sums[found[at + to]][line[second]]
        return self.rest_of(found, monic)

    def power_of_row(self, row, exponent, monic):
        """What the power of a row leaves when it is divided by a monic one."""
        power = (1,) + (0,) * (len(row) - 1)
        while exponent > 0:
            if exponent % 2 == 1:
                power = self.product_of(power, row, monic)
            row = self.product_of(row, row, monic)
            exponent = exponent // 2
        return power

    def monic_rows(self, degree):
        """The list of all monic rows of a degree, ascending as tuples."""
        return [codes + (1,) for codes in code_tuples(self._many, degree)]

    def is_divided(self, row, lower):
        """Whether one of some monic rows divides a row."""
        for low in lower:
            if not any(self.rest_of(row, low)):
                return True
        return False

    def least_poly(self, many):
        """The least tuple of a degree that tells an irreducible monic row."""
        lower = [row for degree in range(1, many // 2 + 1) for row in self.monic_rows(degree)]
        # X divides all rows with the entry 0 ahead.
        number = first_powers(self._many, many - 1)[-1]
        while self.is_divided(self.monic_row(number, many), lower):
            number += 1
        return self.monic_row(number, many)

    def monic_row(self, number, degree):
        """The monic row with a number among all of a degree, ascending as tuples."""
        return padded_codes(number, self._many, degree)[::-1] + (1,)

    def powers_in(self, poly):
        """The list of all elements but 0 of a tower, as the powers of one of them."""
        fold = len(poly) - 1
        last = first_powers(self._many, fold)[-1] - 1
        number = self._many
        # The numbers below tell elements of the field. The next ones have few entries, so that there
        # are few steps in a product by them.
        while not self.is_maker_of_all(padded_codes(number, self._many, fold), last, poly):
            number += 1
        return self.first_powers_of(digits_of(number, self._many), last, poly)

    def first_powers_of(self, maker, many, poly):
        """The list of the first powers of an element, so many."""
        above = [self._products[self._products[entry][self._minus]] for entry in poly[:-1]]
        power = (1,) + (0,) * (len(poly) - 2)
        powers = []
        for _ in range(many):
            powers.append(power)
            power = self.times_maker(power, maker, above)
        return powers

    def times_maker(self, row, maker, above):
        """The product of two elements, of which one has few entries.

        For each entry of the polynomial but the last one the products with its opposite are passed.
        """
        product = self.scaled(row, maker[-1])
        for code in reversed(maker[:-1]):
            # The power X ** n is the opposite of the lower entries of the polynomial.
            last = product[-1]
            if last == 0:
                product = (0,) + product[:-1]
            else:
                product = tuple([self._sums[low][line[last]] for low, line in zip((0,) + product, above)])
            if code != 0:
                product = self.added(product, self.scaled(row, code))
        return product

    def scaled(self, row, code):
        """The row with each entry multiplied by a code."""
        if code == 1:
            return row
        line = self._products[code]
        return tuple([line[entry] for entry in row])

    def added(self, one, other):
        """The sum of two rows of one length."""
        return tuple([self._sums[first][second] for first, second in zip(one, other)])

    def is_maker_of_all(self, row, last, poly):
        """Whether the powers of an element other than 0 are all elements other than 0, so many."""
        one = (1,) + (0,) * (len(row) - 1)
        for prime in prime_powers(last):
            if self.power_of_row(row, last // prime, poly) == one:
                return False
        return True


class TowerSteps:
    """The products and the powers of the elements of a tower, of two or more folds.

    Only where many products are asked for, all elements are told as powers of one of them: this takes
    as long as some hundreds of products.
    """

    def __init__(self, field, fold):
        self._tables = CodeTables(field)
        self._poly = self._tables.least_poly(fold)
        self._zero = (0,) * fold
        self._last = first_powers(field.size, fold)[-1] - 1
        self._left = self._last // 8
        self._powers = []
        self._logs = {}

    def told_poly(self):
        """The polynomial of the tower."""
        return self._poly

    def sum_of(self, one, other):
        """The sum of two elements."""
        return self._tables.added(one, other)

    def times(self, one, other):
        """The product of two elements."""
        if not self._are_powers_told(1):
            return self._tables.product_of(one, other, self._poly)
        if one == self._zero or other == self._zero:
            return self._zero
        return self._powers[(self._logs[one] + self._logs[other]) % self._last]

    def raised(self, one, number):
        """The power of an element with an exponent above 0."""
        if one == self._zero:
            return one
        exponent = number % self._last
        if not self._are_powers_told(len(digits_of(exponent, 2))):
            return self._tables.power_of_row(one, exponent, self._poly)
        return self._powers[self._logs[one] * exponent % self._last]

    def values_of(self, factor, exponent):
        """The list of the products of a factor other than 0 and of the powers of all elements but 0."""
        self._tell_powers()
        log = self._logs[factor]
        return [self._powers[(log + exponent * at) % self._last] for at in range(self._last)]

    def _are_powers_told(self, many):
        # The number of the products that are still made one by one.
        self._left = self._left - many
        if self._left < 0:
            self._tell_powers()
        return len(self._powers) > 0

    def _tell_powers(self):
        if len(self._powers) == 0:
            self._powers = self._tables.powers_in(self._poly)
            self._logs = {element: log for log, element in enumerate(self._powers)}


class FieldSteps:
    """The same for the tower of one fold, whose elements are those of the field."""

    def __init__(self, field):
        self._field = field

    def told_poly(self):
        """The polynomial of the tower."""
        return (0, 1)

    def sum_of(self, one, other):
        """The sum of two elements."""
        return (self._field.plus(one[0], other[0]),)

    def times(self, one, other):
        """The product of two elements."""
        return (self._field.times(one[0], other[0]),)

    def raised(self, one, number):
        """The power of an element with an exponent above 0."""
        return (self._field.raised(one[0], number % (self._field.size - 1) + self._field.size - 1),)

    def values_of(self, factor, exponent):
        """The list of the products of a factor other than 0 and of the powers of all elements but 0."""
        log = self._field.log_of(factor[0])
        powers = self._field.all_powers()
        return [(powers[(log + exponent * at) % len(powers)],) for at in range(len(powers))]


def code_tuples(many, length):
    """The ascending list of all tuples of a length of codes, of which there are so many."""
    found = [()]
    for _ in range(length):
        found = [codes + (code,) for codes in found for code in range(many)]
    return found


def padded_codes(number, many, length):
    """The digits of a number, the lowest one first, with zeros behind them."""
    digits = digits_of(number, many)
    return digits + (0,) * (length - len(digits))
