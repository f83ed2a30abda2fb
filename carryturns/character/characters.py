"""Characters: what leads the elements of a field to powers of a root of unity."""

from math import gcd

from carryturns.base.numbers import check_count, check_integer, is_integer
from carryturns.errors import InvalidCharacter, InvalidOperation, InvalidOrder, InvalidTurn
from carryturns.field.fields import check_element, check_field, check_order, opposite_class
from carryturns.turn.turns import Turn, integer_in, stepped_sum, turn_of_sums

MAX_ORDER = 24


def check_character(character):
    """Refuse what is no character."""
    if not isinstance(character, Character):
        raise InvalidCharacter("no character")


def check_character_order(order):
    """Refuse what is no order of any field."""
    if not is_integer(order) or not 1 <= order <= MAX_ORDER:
        raise InvalidOrder("no order from 1 to 24")


def sign_of(field, order, index):
    """The value at -1 of the character with an index, as an integer."""
    if opposite_class(field, order) * index % order == 0:
        return 1
    return -1


def are_turns(order, value):
    """Whether the value is a tuple of as many turn numbers of an order as it says."""
    if not isinstance(value, tuple) or len(value) != order:
        return False
    return all([isinstance(turn, Turn) and turn.order == order for turn in value])


class Character:
    """A character. It never changes."""

    def __init__(self, field, order, index):
        check_field(field)
        check_order(field, order)
        check_count(index, 0, order - 1)
        self._field = field
        self._order = order
        self._number = index
        self._exact = order // gcd(order, index)
        self._sign = sign_of(field, order, index)

    @property
    def field(self):
        """The field."""
        return self._field

    @property
    def order(self):
        """The order."""
        return self._order

    @property
    def number(self):
        """The index."""
        return self._number

    @property
    def exact(self):
        """The exact order."""
        return self._exact

    @property
    def is_trivial(self):
        """Whether the index is 0."""
        return self._number == 0

    @property
    def sign(self):
        """The value at -1, as an integer."""
        return self._sign

    def value_at(self, element):
        """The value at an element, a turn number."""
        check_element(self._field, element)
        if element == 0:
            return Turn.whole(self._order, 0)
        return Turn.power(self._order, self._number * self._field.log_of(element))

    def times(self, other):
        """The product of two characters."""
        check_character(other)
        if other.field != self._field or other.order != self._order:
            raise InvalidOperation("characters of unlike fields or orders")
        return self._with_index(self._number + other.number)

    def raised(self, many):
        """The power, with an integer of any sign as its exponent."""
        check_integer(many)
        return self._with_index(self._number * many)

    def opposite(self):
        """The power with the exponent -1."""
        return self._with_index(-self._number)

    def widened(self, order):
        """The character of a multiple of the order that has the same values."""
        check_order(self._field, order)
        if order % self._order != 0:
            raise InvalidOrder("no multiple of the order")
        return Character(self._field, order, self._number * (order // self._order))

    def _with_index(self, index):
        return Character(self._field, self._order, index % self._order)

    def __eq__(self, other):
        if not isinstance(other, Character) or self._field != other.field:
            return False
        return self._order == other.order and self._number == other.number

    def __str__(self):
        return f"character {self._number} of order {self._order} over {self._field.size}"


def characters(field, order):
    """The tuple of all characters of an order, by ascending indices."""
    check_field(field)
    check_order(field, order)
    return tuple([Character(field, order, index) for index in range(order)])


def total_of(character):
    """The sum of the values of a character at all elements."""
    check_character(character)
    if character.is_trivial:
        return Turn.whole(character.order, character.field.size - 1)
    return Turn.whole(character.order, 0)


def count_roots(field, exponent, element):
    """The number of the elements of which an element is the power with an exponent."""
    check_field(field)
    check_count(exponent, 1)
    check_element(field, element)
    if element == 0:
        return 1
    many = gcd(exponent, field.size - 1)
    if field.log_of(element) % many == 0:
        return many
    return 0


def class_sums(order, values):
    """The tuple of the sums that integers have, one integer for each class."""
    check_character_order(order)
    if not isinstance(values, tuple) or len(values) != order:
        raise InvalidOperation("no tuple of as many integers as there are classes")
    if not all([is_integer(value) for value in values]):
        raise InvalidOperation("no tuple of integers")
    found = []
    for index in range(order):
        sums = [0] * order
        for number, value in enumerate(values):
            sums[-index * number % order] += value
        found.append(turn_of_sums(order, sums))
    return tuple(found)


def class_values(order, sums):
    """The tuple of the integers whose sums a tuple of turn numbers has."""
    check_character_order(order)
    if not are_turns(order, sums):
        raise InvalidTurn("no tuple of as many turn numbers of the order")
    return tuple([integer_in(stepped_sum(order, sums, number), order) for number in range(order)])
