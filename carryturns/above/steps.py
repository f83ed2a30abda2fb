"""Polynomials over a field whose entries are codes, reckoned with by tables; nothing is checked here.

An element of a tower is a tuple of codes, that of the power 0 first. This is for towers of two or
more folds, whose fields are small enough for tables of all their sums and products.
"""

from carryturns.base.numbers import digits_of, first_powers, prime_powers


class CodeTables:
    """The sums and the products of all elements of a field."""

    def __init__(self, field):
        self._sums = tuple([tuple([field.plus(one, other) for other in field]) for one in field])
        self._products = tuple([tuple([field.times(one, other) for other in field]) for one in field])
        self._minus = field.opposite(1)
        self._many = field.size

    def rest_of(self, row, monic):
        """What a row leaves when it is divided by a monic one."""
        degree = len(monic) - 1
        rest = list(row)
        for at in reversed(range(degree, len(row))):
            if rest[at] != 0:
                line = self._products[self._products[rest[at]][self._minus]]
                for to in range(degree):
                    place = at - degree + to
                    rest[place] = self._sums[rest[place]][line[monic[to]]]
        return tuple(rest[:degree])

    def product_of(self, one, other, monic):
        """What the product of two rows leaves when it is divided by a monic one."""
        found = [0] * (len(one) + len(other) - 1)
        for at, first in enumerate(one):
            if first != 0:
                line = self._products[first]
                for to, second in enumerate(other):
                    found[at + to] = self._sums[found[at + to]][line[second]]
        return self.rest_of(found, monic)

    def power_of_row(self, row, exponent, monic):
        """What the power of a row leaves when it is divided by a monic one."""
        power = (1,) + (0,) * (len(row) - 1)
        while exponent > 0:
            if exponent % 2 == 1:
                power = self.product_of(power, row, monic)
            row = self.product_of(row, row, monic)
            exponent = exponent // 2
        return power

    def monic_rows(self, degree):
        """The list of all monic rows of a degree, ascending as tuples."""
        return [codes + (1,) for codes in code_tuples(self._many, degree)]

    def least_poly(self, many):
        """The least tuple of a degree that tells an irreducible monic row."""
        lower = [row for degree in range(1, many // 2 + 1) for row in self.monic_rows(degree)]
        # X divides all rows with the entry 0 ahead.
        rows = [row for row in self.monic_rows(many) if row[0] != 0]
        at = 0
        while any([not any(self.rest_of(rows[at], low)) for low in lower]):
            at += 1
        return rows[at]

    def powers_in(self, poly):
        """The list of all elements but 0 of a tower, as the powers of one of them."""
        fold = len(poly) - 1
        last = first_powers(self._many, fold)[-1] - 1
        number = self._many
        # The numbers below tell elements of the field. The next ones have few entries, so that there
        # are few steps in a product by them.
        while not self.is_maker_of_all(padded_codes(number, self._many, fold), last, poly):
            number += 1
        maker = digits_of(number, self._many)
        powers = [(1,) + (0,) * (fold - 1)]
        for _ in range(last - 1):
            powers.append(self.product_of(maker, powers[-1], poly))
        return powers

    def is_maker_of_all(self, row, last, poly):
        """Whether the powers of an element other than 0 are all elements other than 0, so many."""
        one = (1,) + (0,) * (len(row) - 1)
        return all([self.power_of_row(row, last // prime, poly) != one for prime in prime_powers(last)])


def code_tuples(many, length):
    """The ascending list of all tuples of a length of codes, of which there are so many."""
    found = [()]
    for _ in range(length):
        found = [codes + (code,) for codes in found for code in range(many)]
    return found


def padded_codes(number, many, length):
    """The digits of a number, the lowest one first, with zeros behind them."""
    digits = digits_of(number, many)
    return digits + (0,) * (length - len(digits))
