"""Towers: the fields above a finite field, with tuples of its codes as elements."""

from carryturns.above.steps import FieldSteps, TowerSteps
from carryturns.base.numbers import check_count, first_powers
from carryturns.errors import InvalidElement, TooMany
from carryturns.field.fields import check_element, check_field

MAX_TOWER = 4096
MAX_FOLD = 12


class Tower:
    """The field of so many folds above a field. It never changes."""

    def __init__(self, field, many):
        check_field(field)
        check_count(many, 1, MAX_FOLD)
        size = first_powers(field.size, many)[-1]
        if size > MAX_TOWER:
            raise TooMany(MAX_TOWER)
        self._field = field
        self._fold = many
        self._size = size
        self._steps = FieldSteps(field) if many == 1 else TowerSteps(field, many)
        self._poly = self._steps.told_poly()
        self._zero = (0,) * many

    @property
    def field(self):
        """The field below."""
        return self._field

    @property
    def fold(self):
        """The number of folds."""
        return self._fold

    @property
    def size(self):
        """The number of the elements."""
        return self._size

    @property
    def poly(self):
        """The entries of the polynomial, that of the power 0 first."""
        return self._poly

    def plus(self, one, other):
        """The sum of two elements."""
        self._check_member(one)
        self._check_member(other)
        return self._steps.sum_of(one, other)

    def times(self, one, other):
        """The product of two elements."""
        self._check_member(one)
        self._check_member(other)
        return self._steps.times(one, other)

    def raised(self, one, number):
        """The power of an element with an exponent of at least 0."""
        self._check_member(one)
        check_count(number, 0)
        if number == 0:
            return self.embedded(1)
        return self._steps.raised(one, number)

    def norm_of(self, one):
        """The code that is the product of the element, raised to all powers of q below the size."""
        product = self.embedded(1)
        for power in self._conjugates(one):
            product = self._steps.times(product, power)
        return product[0]

    def trace_of(self, one):
        """The code that is the sum of the element, raised to all powers of q below the size."""
        total = self._zero
        for power in self._conjugates(one):
            total = self._steps.sum_of(total, power)
        return total[0]

    def sums_of(self, one, others):
        """The list of the sums of an element and of others; nothing is checked here."""
        return [self._steps.sum_of(one, other) for other in others]

    def term_values(self, factor, exponent):
        """The list of the products of a code other than 0 and of the powers of all elements, that of 0 first."""
        return [self._zero] + self._steps.values_of(self.embedded(factor), exponent)

    def embedded(self, code):
        """The element that a code of the field is."""
        check_element(self._field, code)
        return (code,) + self._zero[1:]

    def members(self):
        """A generator of all elements, ascending."""
        size = self._field.size
        places = first_powers(size, self._fold - 1)
        for number in range(self._size):
            yield tuple([number // place % size for place in reversed(places)])

    def _conjugates(self, one):
        # The element, raised to all powers of q below the size, each one the power of the one ahead.
        self._check_member(one)
        powers = [one]
        for _ in range(self._fold - 1):
            powers.append(self._steps.raised(powers[-1], self._field.size))
        return powers

    def _check_member(self, value):
        if not isinstance(value, tuple) or len(value) != self._fold:
            raise InvalidElement("no tuple of as many codes as there are folds")
        if not all([code in self._field for code in value]):
            raise InvalidElement("no tuple of codes of the field")

    def __len__(self):
        return len(self._zero)

    def __eq__(self, other):
        return isinstance(other, Tower) and self._field == other._field and self._fold == other._fold

    def __str__(self):
        return f"tower of {self._fold} over {self._field.size}"
