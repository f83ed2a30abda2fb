"""Finite fields of at most 512 elements; an element is told by an integer, its code."""

from carryturns.base.numbers import (
    check_count, check_integer, check_prime, digits_of, divisors, first_powers, is_integer, prime_powers,
)
from carryturns.base.residues import least_irreducible
from carryturns.base.rows import code_of, multiply_by_short, power_modulo
from carryturns.errors import InvalidCount, InvalidElement, InvalidField, InvalidOperation, InvalidOrder

MAX_SIZE = 512
MAX_CLASSES = 24


def is_field_size(value):
    """Whether the value is a power of a prime, with an exponent of at least 1, up to 512."""
    return is_integer(value) and 2 <= value <= MAX_SIZE and len(prime_powers(value)) == 1


def check_field(field):
    """Refuse what is no field."""
    if not isinstance(field, Field):
        raise InvalidField("no field")


def check_element(field, element):
    """Refuse what is no element of the field."""
    if element not in field:
        raise InvalidElement("no element of the field")


def check_not_zero(field, element):
    """Refuse what is no element of the field, and 0."""
    check_element(field, element)
    if element == 0:
        raise InvalidElement("the element 0")


def check_order(field, order):
    """Refuse what is no order of the field."""
    if not is_integer(order) or order not in field.orders:
        raise InvalidOrder("no order of the field")


def size_of(prime, degree):
    """The size of the field of a prime and a degree, if there is one."""
    size = 1
    # A degree can have sixty digits, so the product stops where it is too great.
    while degree > 0 and size <= MAX_SIZE:
        size = size * prime
        degree -= 1
    if size > MAX_SIZE:
        return None
    return size


def is_generator(prime, row, poly, many):
    """Whether the powers of a row modulo the polynomial are all many rows other than ()."""
    for divisor in prime_powers(many):
        if power_modulo(prime, row, many // divisor, poly) == (1,):
            return False
    return True


def least_generator(prime, poly, size):
    """The digits of the least element whose powers are all elements other than 0."""
    # In a field of a degree above 1, the powers of a residue are residues.
    code = 1 if size == prime else prime
    while not is_generator(prime, digits_of(code, prime), poly, size - 1):
        code += 1
    return digits_of(code, prime)


def generator_powers(prime, poly, size):
    """The tuple of the codes of the powers of the generator, with the exponents from 0 to size - 2."""
    generator = least_generator(prime, poly, size)
    entries = [1] + [0] * (len(poly) - 2)
    codes = []
    for _ in range(size - 1):
        codes.append(code_of(prime, entries))
        entries = multiply_by_short(prime, generator, entries, poly)
    return tuple(codes)


def logs_by_code(powers):
    """The tuple that has for each element its log, and None for 0."""
    logs = [None] * (len(powers) + 1)
    for log, element in enumerate(powers):
        logs[element] = log
    return tuple(logs)


def logs_of_nexts(prime, powers, logs):
    """The tuple that has for each log that of the element which is 1 more, and None for 0."""
    # To add 1 is to add it to the last digit, which has no carry.
    codes = [code + 1 if (code + 1) % prime != 0 else code + 1 - prime for code in powers]
    return tuple([logs[code] for code in codes])


class Field:
    """A finite field. It never changes."""

    def __init__(self, prime, degree=1):
        check_prime(prime, MAX_SIZE)
        check_count(degree, 1)
        size = size_of(prime, degree)
        if size is None:
            raise InvalidCount(degree)
        self._prime = prime
        self._degree = degree
        self._size = size
        self._poly = least_irreducible(prime, degree)
        self._codes = tuple(range(size))
        self._powers = generator_powers(prime, self._poly, size)
        self._logs = logs_by_code(self._powers)
        self._nexts = logs_of_nexts(prime, self._powers, self._logs)
        self._orders = tuple([order for order in divisors(size - 1) if order <= MAX_CLASSES])

    @property
    def prime(self):
        """The prime p."""
        return self._prime

    @property
    def degree(self):
        """The degree f."""
        return self._degree

    @property
    def size(self):
        """The number q of the elements."""
        return self._size

    @property
    def generator(self):
        """The least element whose powers are all elements other than 0."""
        # With two elements, the generator is its own power 0.
        return self._powers[1 % len(self._powers)]

    @property
    def poly(self):
        """The entries of the polynomial, that of X ** 0 first."""
        return self._poly

    @property
    def orders(self):
        """The ascending tuple of the orders."""
        return self._orders

    def plus(self, one, other):
        """The sum of two elements."""
        check_element(self, one)
        check_element(self, other)
        if one == 0 or other == 0:
            return one + other
        log = self._logs[other]
        step = self._nexts[(self._logs[one] - log) % len(self._powers)]
        if step is None:
            return 0
        return self._element_at(log + step)

    def minus(self, one, other):
        """The difference of two elements."""
        check_element(self, one)
        return self.plus(one, self.opposite(other))

    def times(self, one, other):
        """The product of two elements."""
        check_element(self, one)
        check_element(self, other)
        if one == 0 or other == 0:
            return 0
        return self._element_at(self._logs[one] + self._logs[other])

    def over(self, one, other):
        """The quotient of two elements."""
        check_element(self, one)
        check_element(self, other)
        if other == 0:
            raise InvalidOperation("a quotient by 0")
        if one == 0:
            return 0
        return self._element_at(self._logs[one] - self._logs[other])

    def opposite(self, element):
        """The element that adds up to 0 with this one."""
        return self.times(element, self._prime - 1)

    def raised(self, element, many):
        """The power of an element; with the exponent 0 it is 1, also for 0."""
        check_element(self, element)
        check_integer(many)
        if many == 0:
            return 1
        if element != 0:
            return self._element_at(self._logs[element] * many)
        if many < 0:
            raise InvalidOperation("a power of 0 with an exponent below 0")
        return 0

    def log_of(self, element):
        """The least exponent from 0 on with which the power of the generator is this element."""
        check_not_zero(self, element)
        return self._logs[element]

    def power_of(self, many):
        """The power of the generator."""
        check_integer(many)
        return self._element_at(many)

    def trace_of(self, element):
        """The sum of the element, raised to all powers of p below q."""
        total = 0
        for power in first_powers(self._prime, self._degree - 1):
            total = self.plus(total, self.raised(element, power))
        return total

    def norm_of(self, element):
        """The product of the element, raised to all powers of p below q."""
        return self.raised(element, sum(first_powers(self._prime, self._degree - 1)))

    def class_of(self, element, order):
        """The class of an element other than 0."""
        check_not_zero(self, element)
        check_order(self, order)
        return self._logs[element] % order

    def elements_of(self, order, number):
        """The ascending tuple of the elements of a class."""
        check_order(self, order)
        check_count(number, 0, order - 1)
        return tuple(sorted(self._powers[number::order]))

    def lesser(self, degree):
        """The ascending tuple of the elements of the lesser field of a degree."""
        check_count(degree, 1, self._degree)
        if self._degree % degree != 0:
            raise InvalidCount(degree)
        step = (self._size - 1) // (size_of(self._prime, degree) - 1)
        return tuple([0] + sorted(self._powers[::step]))

    def next_logs(self):
        """The tuple that has for each log that of the element which is 1 more, and None for 0."""
        return self._nexts

    def all_powers(self):
        """The tuple of all elements other than 0, by ascending logs."""
        return self._powers

    def _element_at(self, log):
        return self._powers[log % len(self._powers)]

    def __contains__(self, value):
        return is_integer(value) and 0 <= value < self._size

    def __len__(self):
        return len(self._codes)

    def __iter__(self):
        return iter(self._codes)

    def __eq__(self, other):
        return isinstance(other, Field) and self._size == other._size

    def __str__(self):
        return f"field of {self._size}"


def opposite_class(field, order):
    """The class of -1."""
    check_field(field)
    check_order(field, order)
    if field.prime == 2 or (field.size - 1) // order % 2 == 0:
        return 0
    return order // 2
