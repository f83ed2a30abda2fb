"""Towers in the plainest way, to hold the package against: polynomials whose entries are codes."""

import itertools


def times(field, one, other):
    """The product of two polynomials over a field, term by term."""
    sums = [0] * (len(one) + len(other) - 1)
    for at, first in enumerate(one):
        for to, second in enumerate(other):
            sums[at + to] = field.plus(sums[at + to], field.times(first, second))
    return tuple(sums)


def rest(field, row, monic):
    """What a polynomial leaves by a monic one."""
    row = list(row)
    while len(row) >= len(monic):
        factor = row[-1]
        for at, entry in enumerate(monic):
            place = len(row) - len(monic) + at
            row[place] = field.minus(row[place], field.times(factor, entry))
        assert row.pop() == 0
    return tuple(row) + (0,) * (len(monic) - 1 - len(row))


def monic_rows(field, degree):
    """All monic polynomials of a degree, ascending as tuples."""
    return [codes + (1,) for codes in itertools.product(range(field.size), repeat=degree)]


def least_poly(field, many):
    """The least monic polynomial of a degree that is no product of two of lesser degrees, by all products."""
    products = set()
    for low in range(1, many // 2 + 1):
        for one in monic_rows(field, low):
            for other in monic_rows(field, many - low):
                products.add(times(field, one, other))
    return next(row for row in monic_rows(field, many) if row not in products)


class PlainTower:
    """A tower whose elements are reckoned with as polynomials."""

    def __init__(self, field, many, poly):
        self.field, self.many, self.poly = field, many, poly
        self.members = list(itertools.product(range(field.size), repeat=many))
        self.one = (1,) + (0,) * (many - 1)

    def plus(self, one, other):
        return tuple(self.field.plus(first, second) for first, second in zip(one, other))

    def times(self, one, other):
        return rest(self.field, times(self.field, one, other), self.poly)

    def raised(self, one, number):
        power = self.one
        while number:
            if number % 2:
                power = self.times(power, one)
            one, number = self.times(one, one), number // 2
        return power

    def conjugates(self, one):
        """The element, raised to 1, q, q * q, .."""
        found = [one]
        for _ in range(self.many - 1):
            found.append(self.raised(found[-1], self.field.size))
        return found

    def norm(self, one):
        found = self.one
        for element in self.conjugates(one):
            found = self.times(found, element)
        assert not any(found[1:])
        return found[0]

    def trace(self, one):
        found = (0,) * self.many
        for element in self.conjugates(one):
            found = self.plus(found, element)
        assert not any(found[1:])
        return found[0]
