"""Waves: sums of turn numbers times powers of a root of unity w of a prime order; Gauss sums."""

from math import gcd

from carryturns.base.numbers import check_count, check_prime, digits_of, is_integer
from carryturns.base.products import multiply_entries
from carryturns.errors import InvalidCharacter, InvalidCount, InvalidOperation, InvalidOrder, InvalidWave
from carryturns.field.fields import check_element, check_field
from carryturns.field.lists import trace_counts
from carryturns.total.totals import is_index
from carryturns.turn.rings import TurnRing
from carryturns.turn.turns import Turn, check_turn, made_turn

MAX_WAVE = 19
MAX_WAVE_ORDER = 12
MAX_WAVE_POWER = 24

MAX_MANY = 12
MAX_PRODUCT = 12
MAX_SUMMED = 6


def check_wave_order(order):
    """Refuse what is no order of waves."""
    if not is_integer(order) or not 1 <= order <= MAX_WAVE_ORDER:
        raise InvalidOrder("no order from 1 to 12")


def check_wave(wave):
    """Refuse what is no wave."""
    if not isinstance(wave, Wave):
        raise InvalidWave("no wave")


def are_entries(order, prime, value):
    """Whether the value is a tuple of turn numbers of the order, one less than the prime."""
    if not isinstance(value, tuple) or len(value) != prime - 1:
        return False
    return all([isinstance(turn, Turn) and turn.order == order for turn in value])


def wave_of_rows(order, prime, rows):
    """The wave that is the sum of all rows, each times the power of w that its index tells.

    A row is a list that tells how often each power of z is there, with as many items as an order or
    a product of turn numbers has.
    """
    sums = [[0] * len(rows[0]) for _ in range(prime)]
    for at, row in enumerate(rows):
        sums[at % prime] = [total + many for total, many in zip(sums[at % prime], row)]
    # The last power of w is the opposite of the sum of all others.
    last = sums[-1]
    ring = TurnRing(order)
    entries = [ring.reduced([many - less for many, less in zip(row, last)]) for row in sums[:-1]]
    return Wave(order, prime, tuple([made_turn(order, ring, entry) for entry in entries]))


def whole_wave(order, prime, number):
    """An integer as a wave."""
    zeros = (Turn.whole(order, 0),) * (prime - 2)
    return Wave(order, prime, (Turn.whole(order, number),) + zeros)


def product_rows(one, other):
    """The rows of the product of two waves, by the powers of w.

    All entries stand behind one another, with so many zeros between them that products of turn
    numbers do not overlap: so both waves are multiplied as polynomials in z alone.
    """
    width = len(one.entries[0].entries)
    gap = (0,) * (width - 1)
    first = [entry for turn in one.entries for entry in turn.entries + gap]
    second = [entry for turn in other.entries for entry in turn.entries + gap]
    sums = multiply_entries(first, second) + [0]
    length = 2 * width - 1
    return [sums[at:at + length] for at in range(0, len(sums), length)]


class Wave:
    """A wave. It never changes."""

    def __init__(self, order, prime, entries):
        check_wave_order(order)
        check_prime(prime, MAX_WAVE)
        if not are_entries(order, prime, entries):
            raise InvalidWave("no tuple of as many turn numbers of the order as the prime less 1")
        if order % prime == 0:
            raise InvalidOperation("a prime that divides the order")
        self._order = order
        self._prime = prime
        self._entries = entries

    @property
    def order(self):
        """The order of the turn numbers."""
        return self._order

    @property
    def prime(self):
        """The prime."""
        return self._prime

    @property
    def entries(self):
        """The tuple of the entries, turn numbers, that of the power 0 of w first."""
        return self._entries

    @property
    def is_turn(self):
        """Whether this is a turn number."""
        return all([turn.is_zero for turn in self._entries[1:]])

    def plus(self, other):
        """The sum."""
        self._check_other(other)
        return self._with([first.plus(second) for first, second in zip(self._entries, other.entries)])

    def minus(self, other):
        """The difference."""
        self._check_other(other)
        return self._with([first.minus(second) for first, second in zip(self._entries, other.entries)])

    def times(self, other):
        """The product."""
        self._check_other(other)
        return wave_of_rows(self._order, self._prime, product_rows(self, other))

    def scaled(self, factor):
        """The product with a turn number or with an integer."""
        if is_integer(factor):
            return self._with([turn.scaled(factor) for turn in self._entries])
        check_turn(factor)
        if factor.order != self._order:
            raise InvalidOperation("a turn number of another order")
        return self._with([turn.times(factor) for turn in self._entries])

    def opposite(self):
        """The product with -1."""
        return self._with([turn.opposite() for turn in self._entries])

    def raised(self, many):
        """The power with an exponent from 0 to 24."""
        check_count(many, 0, MAX_WAVE_POWER)
        if many == 0:
            return whole_wave(self._order, self._prime, 1)
        power = self
        # From the second digit of the exponent to the base 2 on.
        for digit in reversed(digits_of(many, 2)[:-1]):
            power = power.times(power)
            if digit == 1:
                power = power.times(self)
        return power

    def moved(self, number):
        """The wave with w ** number in the place of w."""
        check_count(number, 1, self._prime - 1)
        rows = [[0] * len(self._entries[0].entries) for _ in range(self._prime)]
        for at, turn in enumerate(self._entries):
            rows[at * number % self._prime] = list(turn.entries)
        return wave_of_rows(self._order, self._prime, rows)

    def turned(self, unit):
        """The wave with its entries turned."""
        return self._with([turn.turned(unit) for turn in self._entries])

    def mirrored(self):
        """The wave, moved by the prime less 1 and turned by -1."""
        return self.moved(self._prime - 1).turned(-1)

    def as_turn(self):
        """The turn number that this is."""
        if not self.is_turn:
            raise InvalidOperation("a wave that is no turn number")
        return self._entries[0]

    def _check_other(self, other):
        check_wave(other)
        if other.order != self._order or other.prime != self._prime:
            raise InvalidOperation("waves of unlike orders or primes")

    def _with(self, turns):
        return Wave(self._order, self._prime, tuple(turns))

    def __eq__(self, other):
        if not isinstance(other, Wave) or self._order != other.order or self._prime != other.prime:
            return False
        return self._entries == other.entries

    def __str__(self):
        return f"wave of order {self._order} over {self._prime}"


def check_orders(field, order):
    """Refuse what is no field, and no order up to 12 of it."""
    check_field(field)
    check_wave_order(order)
    if (field.size - 1) % order != 0:
        raise InvalidOrder("no order of the field")


def check_index(order, index):
    """Refuse what is no index of a character."""
    if not is_index(order, index):
        raise InvalidCharacter("no index from 0 to the order less 1")


def check_index_tuple(order, indices, most):
    """Refuse what is no tuple of indices, or one of too many."""
    if not isinstance(indices, tuple) or not 1 <= len(indices) <= most:
        raise InvalidCharacter("no tuple of indices, or too many of them")
    if not all([is_index(order, index) for index in indices]):
        raise InvalidCharacter("no tuple of indices")


def check_characteristic(field):
    """Refuse a field without waves."""
    if field.prime > MAX_WAVE:
        raise InvalidOperation("a characteristic above 19")


def sum_by_traces(field, order, counts, index, log):
    """The Gauss sum at an element with a log, by how many elements of each class have each trace."""
    rows = [[0] * order for _ in counts]
    for at, row in enumerate(counts):
        for number, many in enumerate(row):
            # The classes are those of products with the element.
            place = index * (number - log) % order
            rows[at][place] = rows[at][place] + many
    return wave_of_rows(order, field.prime, rows)


def sums_of(field, order, indices):
    """The list of the Gauss sums of some indices."""
    counts = trace_counts(field, order)
    return [sum_by_traces(field, order, counts, index, 0) for index in indices]


def product_of_waves(waves):
    """The product of one wave or more."""
    product = waves[0]
    for wave in waves[1:]:
        product = product.times(wave)
    return product


def gauss(field, order, index):
    """The Gauss sum of the character with an index."""
    check_orders(field, order)
    check_index(order, index)
    check_characteristic(field)
    return sums_of(field, order, (index,))[0]


def gauss_at(field, order, index, element):
    """The sum like the Gauss sum, with the trace of the product with an element."""
    check_orders(field, order)
    check_index(order, index)
    check_element(field, element)
    check_characteristic(field)
    if element == 0:
        # All traces are 0, and so is the sum of all values, but for the character 0.
        return whole_wave(order, field.prime, field.size - 1 if index == 0 else 0)
    return sum_by_traces(field, order, trace_counts(field, order), index, field.log_of(element))


def gauss_product(field, order, indices):
    """The product of the Gauss sums of a tuple of indices."""
    check_orders(field, order)
    check_index_tuple(order, indices, MAX_PRODUCT)
    check_characteristic(field)
    return product_of_waves(sums_of(field, order, indices))


def jacobi_by_gauss(field, order, indices):
    """The sum J of a tuple of indices, told by the Gauss sums; a turn number."""
    check_orders(field, order)
    check_index_tuple(order, indices, MAX_SUMMED)
    both = sum(indices) % order
    if both == 0:
        raise InvalidOperation("indices that add up to 0")
    check_characteristic(field)
    *waves, last = sums_of(field, order, indices + (both,))
    # The Gauss sum of an index other than 0, times its mirror, is q.
    product = product_of_waves(waves).times(last.mirrored()).as_turn()
    return made_turn(order, None, tuple([entry // field.size for entry in product.entries]))


def product_sides(field, order, index, part):
    """The pair of both sides of the rule for the product of the sums of indices a part apart."""
    check_orders(field, order)
    check_index(order, index)
    check_count(part, 1)
    if order % part != 0:
        raise InvalidCount(part)
    check_characteristic(field)
    step = order // part
    left = sums_of(field, order, [(index + number * step) % order for number in range(part)])
    right = sums_of(field, order, [part * index % order] + [number * step for number in range(1, part)])
    # The part is added up in the field, so that it is an element from 1 to p - 1.
    root = Turn.power(order, -part * index * field.log_of(part % field.prime))
    return product_of_waves(left), product_of_waves(right).scaled(root)


def gauss_above(field, order, index, many):
    """The Gauss sum of the character that belongs to an index over a field above."""
    check_orders(field, order)
    check_index(order, index)
    check_count(many, 1, MAX_MANY)
    check_characteristic(field)
    return sums_of(field, order, (index,))[0].opposite().raised(many).opposite()


def gauss_power(field, order, index):
    """The power of a Gauss sum, with the exact order of its character as exponent; a turn number."""
    check_orders(field, order)
    check_index(order, index)
    check_characteristic(field)
    return sums_of(field, order, (index,))[0].raised(order // gcd(order, index)).as_turn()
