"""Towers: the fields above a finite field, with tuples of its codes as elements."""

from carryturns.above.steps import CodeTables
from carryturns.base.numbers import check_count, first_powers
from carryturns.errors import InvalidElement, TooMany
from carryturns.field.fields import check_element, check_field

MAX_TOWER = 4096
MAX_FOLD = 12


def tower_parts(field, many):
    """The pair of the polynomial of a tower and of the list of all its elements but 0, as powers."""
    if many == 1:
        return (0, 1), [(field.power_of(log),) for log in range(field.size - 1)]
    tables = CodeTables(field)
    poly = tables.least_poly(many)
    return poly, tables.powers_in(poly)


class Tower:
    """The field of so many folds above a field. It never changes."""

    def __init__(self, field, many):
        check_field(field)
        check_count(many, 1, MAX_FOLD)
        size = first_powers(field.size, many)[-1]
        if size > MAX_TOWER:
            raise TooMany(MAX_TOWER)
        poly, powers = tower_parts(field, many)
        self._field = field
        self._fold = many
        self._size = size
        self._poly = poly
        self._zero = (0,) * many
        self._powers = tuple(powers)
        self._logs = {element: log for log, element in enumerate(powers)}

    @property
    def field(self):
        """The field below."""
        return self._field

    @property
    def fold(self):
        """The number of folds."""
        return self._fold

    @property
    def size(self):
        """The number of the elements."""
        return self._size

    @property
    def poly(self):
        """The entries of the polynomial, that of the power 0 first."""
        return self._poly

    def plus(self, one, other):
        """The sum of two elements."""
        self._check_member(one)
        self._check_member(other)
        return tuple([self._field.plus(first, second) for first, second in zip(one, other)])

    def times(self, one, other):
        """The product of two elements."""
        self._check_member(one)
        self._check_member(other)
        if one == self._zero or other == self._zero:
            return self._zero
        return self._element_at(self._logs[one] + self._logs[other])

    def raised(self, one, number):
        """The power of an element with an exponent of at least 0."""
        self._check_member(one)
        check_count(number, 0)
        if number == 0:
            return self._powers[0]
        if one == self._zero:
            return self._zero
        return self._element_at(self._logs[one] * number)

    def norm_of(self, one):
        """The code that is the product of the element, raised to all powers of q below the size."""
        return self.raised(one, sum(first_powers(self._field.size, self._fold - 1)))[0]

    def trace_of(self, one):
        """The code that is the sum of the element, raised to all powers of q below the size."""
        total = self._zero
        for power in first_powers(self._field.size, self._fold - 1):
            total = self.plus(total, self.raised(one, power))
        return total[0]

    def embedded(self, code):
        """The element that a code of the field is."""
        check_element(self._field, code)
        return (code,) + self._zero[1:]

    def members(self):
        """A generator of all elements, ascending."""
        size = self._field.size
        places = first_powers(size, self._fold - 1)
        for number in range(self._size):
            yield tuple([number // place % size for place in reversed(places)])

    def _element_at(self, log):
        return self._powers[log % len(self._powers)]

    def _check_member(self, value):
        if not isinstance(value, tuple) or len(value) != self._fold:
            raise InvalidElement("no tuple of as many codes as there are folds")
        if not all([code in self._field for code in value]):
            raise InvalidElement("no tuple of codes of the field")

    def __len__(self):
        return len(self._zero)

    def __eq__(self, other):
        return isinstance(other, Tower) and self._field == other._field and self._fold == other._fold

    def __str__(self):
        return f"tower of {self._fold} over {self._field.size}"
