"""Equations between powers over a field, and the numbers of their solutions."""

from math import gcd, lcm

from carryturns.base.numbers import check_count, divisors, first_powers, is_integer
from carryturns.count.amounts import all_shares, amount_with, count_shares, sum_of_weights
from carryturns.count.classes import counts_by_class, steps_from_zero
from carryturns.errors import InvalidElement, InvalidEquation, InvalidPaper, TooMany
from carryturns.field.fields import check_element, check_field, check_not_zero
from carryturns.field.lists import sums_with

MAX_TERMS = 6
MAX_TRIED = 20000
MAX_SHARES = 20000
MAX_EXPONENT = 1000

MAX_POWERS = 60
MAX_SHARE_ORDER = 24
UNKNOWNS = "xyzuvw"


def is_term(field, value):
    """Whether the value is a pair of an element other than 0 and of an exponent."""
    if not isinstance(value, tuple) or len(value) != 2:
        return False
    factor, exponent = value
    if factor not in field or factor == 0:
        return False
    return is_integer(exponent) and 1 <= exponent <= MAX_EXPONENT


def check_terms(field, terms):
    """Refuse what is no tuple of one to six terms."""
    if not isinstance(terms, tuple) or not 1 <= len(terms) <= MAX_TERMS:
        raise InvalidEquation("no tuple of one to six terms")
    if not all([is_term(field, term) for term in terms]):
        raise InvalidEquation("no tuple of terms")


def check_equation(equation):
    """Refuse what is no equation."""
    if not isinstance(equation, Equation):
        raise InvalidEquation("no equation")


def check_tried(equation):
    """Refuse what is no equation, and one with too many tuples to try."""
    check_equation(equation)
    if first_powers(equation.field.size, len(equation))[-1] > MAX_TRIED:
        raise TooMany(MAX_TRIED)


def check_share_order(equation):
    """Refuse an equation of too great an order."""
    if equation.order > MAX_SHARE_ORDER:
        raise TooMany(MAX_SHARE_ORDER)


def check_shares(equation):
    """Refuse an equation of too great an order, and one with too many shares."""
    check_share_order(equation)
    if count_shares(equation) > MAX_SHARES:
        raise TooMany(MAX_SHARES)


def common_multiple(numbers):
    """The least common multiple of integers above 0."""
    multiple = 1
    for number in numbers:
        multiple = lcm(multiple, number)
    return multiple


def terms_text(terms):
    """The text of the left side of an equation."""
    return " + ".join([f"{term[0]}*{name}^{term[1]}" for term, name in zip(terms, UNKNOWNS)])


class Equation:
    """An equation between powers. It never changes."""

    def __init__(self, field, terms, goal):
        check_field(field)
        check_terms(field, terms)
        check_element(field, goal)
        self._field = field
        self._terms = terms
        self._goal = goal
        self._exponents = tuple([gcd(exponent, field.size - 1) for _, exponent in terms])
        self._order = common_multiple(self._exponents)

    @property
    def field(self):
        """The field."""
        return self._field

    @property
    def terms(self):
        """The tuple of the terms."""
        return self._terms

    @property
    def goal(self):
        """The goal."""
        return self._goal

    @property
    def exponents(self):
        """The tuple of the share exponents."""
        return self._exponents

    @property
    def order(self):
        """The order."""
        return self._order

    def left_at(self, value):
        """What the left side makes of a tuple of elements."""
        if not self._is_tuple(value):
            raise InvalidElement("no tuple of as many elements as there are terms")
        return self._sum_at(value)

    def is_solution(self, value):
        """Whether the value is a solution."""
        return self._is_tuple(value) and self._sum_at(value) == self._goal

    def with_goal(self, element):
        """The equation with another goal."""
        return Equation(self._field, self._terms, element)

    def scaled(self, element):
        """The equation with all factors and the goal multiplied by an element other than 0."""
        check_not_zero(self._field, element)
        terms = tuple([(self._field.times(factor, element), exponent) for factor, exponent in self._terms])
        return Equation(self._field, terms, self._field.times(self._goal, element))

    def _is_tuple(self, value):
        if not isinstance(value, tuple) or len(value) != len(self._terms):
            return False
        return all([element in self._field for element in value])

    def _sum_at(self, value):
        field = self._field
        total = 0
        for (factor, exponent), element in zip(self._terms, value):
            total = field.plus(total, field.times(factor, field.raised(element, exponent)))
        return total

    def __len__(self):
        return len(self._terms)

    def __eq__(self, other):
        if not isinstance(other, Equation) or self._field != other.field:
            return False
        return self._terms == other.terms and self._goal == other.goal

    def __str__(self):
        return f"{terms_text(self._terms)} = {self._goal} over {self._field.size}"


def values_of_term(field, term):
    """The list of what a term is for each element, ascending."""
    factor, exponent = term
    return [field.times(factor, field.raised(element, exponent)) for element in field]


def solutions(equation):
    """A generator of all solutions, ascending."""
    check_tried(equation)
    field = equation.field
    size = field.size
    many = len(equation) - 1
    # For each element, the ascending last unknowns with which the last term is this element.
    lasts = [[] for _ in range(size)]
    for element, value in enumerate(values_of_term(field, equation.terms[-1])):
        lasts[value].append(element)
    # For each other unknown and each element, what the term leaves of each rest.
    rests = []
    for term in equation.terms[:-1]:
        rests.append([sums_with(field, field.opposite(value)) for value in values_of_term(field, term)])
    places = first_powers(size, many)
    for number in range(places[many]):
        firsts = tuple([number // place % size for place in reversed(places[:many])])
        rest = equation.goal
        for first, leaves in zip(firsts, rests):
            rest = leaves[first][rest]
        for last in lasts[rest]:
            yield firsts + (last,)


def count_plainly(equation):
    """The number of solutions, by trying."""
    return len(list(solutions(equation)))


def count_by_classes(equation):
    """The number of solutions, by how often sums of classes are in a class."""
    check_equation(equation)
    field = equation.field
    counts = counts_by_class(field, equation.terms, equation.order)
    if equation.goal == 0:
        return counts[-1]
    return counts[field.log_of(equation.goal) % equation.order]


def count_by_sums(equation):
    """The number of solutions, by the amounts of all shares."""
    check_equation(equation)
    check_shares(equation)
    size = equation.field.size
    total = sum_of_weights(equation, 1)
    if equation.goal == 0:
        total = total * (size - 1)
    return first_powers(size, len(equation) - 1)[-1] + total


def shares_of(equation):
    """The ascending tuple of all shares."""
    check_equation(equation)
    check_shares(equation)
    return tuple(all_shares(equation))


def is_share(equation, value):
    """Whether the value is a share."""
    order = equation.order
    if not isinstance(value, tuple) or len(value) != len(equation):
        return False
    if not all([is_integer(index) and 1 <= index < order for index in value]):
        return False
    if any([index * exponent % order != 0 for index, exponent in zip(value, equation.exponents)]):
        return False
    return equation.goal != 0 or sum(value) % order == 0


def amount_of(equation, share):
    """The amount of a share, a turn number."""
    check_equation(equation)
    if not is_share(equation, share):
        raise InvalidPaper("no share")
    check_share_order(equation)
    return amount_with(equation, share)


def counts_by_goal(field, terms):
    """The tuple of the numbers of solutions for all goals, ascending."""
    check_field(field)
    check_terms(field, terms)
    order = common_multiple([gcd(exponent, field.size - 1) for _, exponent in terms])
    counts = counts_by_class(field, terms, order)
    found = [counts[field.log_of(goal) % order] for goal in range(1, field.size)]
    return tuple([counts[-1]] + found)


def reach_of(field, number):
    """The degree of the lesser field that the sums of powers with an exponent are."""
    check_field(field)
    check_count(number, 1, MAX_EXPONENT)
    powers = first_powers(field.prime, field.degree)
    share = gcd(number, field.size - 1)
    reaches = [degree for degree in divisors(field.degree) if share % ((field.size - 1) // (powers[degree] - 1)) == 0]
    return reaches[0]


def least_number(field, number):
    """The least number of powers with an exponent that add up to each element, or None."""
    if reach_of(field, number) < field.degree:
        return None
    return max(steps_from_zero(field, gcd(number, field.size - 1)))


def power_sums(field, number, many):
    """The ascending tuple of the elements that are sums of so many powers with an exponent."""
    check_field(field)
    check_count(number, 1, MAX_EXPONENT)
    check_count(many, 1, MAX_POWERS)
    share = gcd(number, field.size - 1)
    steps = steps_from_zero(field, share)
    near = [rest is not None and rest <= many for rest in steps]
    return tuple([0] + [element for element in range(1, field.size) if near[field.log_of(element) % share]])
