"""Sums J and numbers of solutions over the fields above a field."""

from carryturns.above.towers import MAX_FOLD, MAX_TOWER, Tower
from carryturns.base.newton import sums_of_entries
from carryturns.base.numbers import check_count, first_powers, is_integer, units_of
from carryturns.base.products import multiply_entries
from carryturns.count.amounts import all_shares, amount_with, count_shares, sum_of_weights
from carryturns.count.equations import MAX_TRIED, check_equation, check_shares
from carryturns.errors import InvalidCount, InvalidOperation, InvalidPolynomial, TooMany
from carryturns.field.fields import is_field_size
from carryturns.total.totals import MAX_TERMS, check_indices, jacobi
from carryturns.turn.turns import Turn, integer_in

MAX_POLY_SHARES = 60


def sign_by(number):
    """1 for an even number, and -1 for an odd one."""
    return 1 if number % 2 == 0 else -1


def check_dividing(equation):
    """Refuse an equation with an exponent that does not divide q - 1."""
    if any([(equation.field.size - 1) % exponent != 0 for _, exponent in equation.terms]):
        raise InvalidOperation("an exponent that does not divide q - 1")


def jacobi_above(field, order, indices, many):
    """The sum above of some indices, a turn number."""
    check_indices(field, order, indices)
    check_count(many, 1, MAX_FOLD)
    if 0 in indices:
        raise InvalidOperation("an index that is a multiple of the order")
    return jacobi(field, order, indices).raised(many).scaled(sign_by((many - 1) * (len(indices) - 1)))


def count_above(equation, many):
    """The number of the solutions over a tower, told by the amounts of all shares."""
    check_equation(equation)
    check_count(many, 1, MAX_FOLD)
    check_dividing(equation)
    check_shares(equation)
    terms = len(equation)
    size = first_powers(equation.field.size, many)[-1]
    total = sum_of_weights(equation, many)
    if equation.goal == 0:
        total = total * (size - 1) * sign_by((many - 1) * (terms - 2))
    else:
        total = total * sign_by((many - 1) * (terms - 1))
    return first_powers(size, terms - 1)[-1] + total


def value_counts(tower, factor, exponent):
    """The dict that tells how often a term has a value, for all elements of a tower."""
    counts = {}
    for value in tower.term_values(factor, exponent):
        counts[value] = counts.get(value, 0) + 1
    return counts


def rests_behind(tower, rests, values):
    """The dict that tells how often a sum of an element and of a value is there."""
    found = {}
    others = list(values)
    for rest in rests:
        for value, total in zip(others, tower.sums_of(rest, others)):
            found[total] = found.get(total, 0) + rests[rest] * values[value]
    return found


def count_plainly_above(equation, many):
    """The number of the solutions over a tower, by going through its elements."""
    check_equation(equation)
    check_count(many, 1, MAX_FOLD)
    field = equation.field
    size = first_powers(field.size, many)[-1]
    if size > MAX_TOWER:
        raise TooMany(MAX_TOWER)
    if first_powers(size, len(equation) - 1)[-1] > MAX_TRIED:
        raise TooMany(MAX_TRIED)
    tower = Tower(field, many)
    rests = {tower.embedded(equation.goal): 1}
    for factor, exponent in equation.terms[:-1]:
        rests = rests_behind(tower, rests, value_counts(tower, field.opposite(factor), exponent))
    factor, exponent = equation.terms[-1]
    values = value_counts(tower, factor, exponent)
    return sum([rests[rest] * values.get(rest, 0) for rest in rests])


def check_polynomial_of(equation):
    """Refuse what has no count polynomial, and what has too many shares for one."""
    check_equation(equation)
    check_dividing(equation)
    if equation.goal == 0:
        raise InvalidOperation("the goal 0")
    check_shares(equation)
    if count_shares(equation) > MAX_POLY_SHARES:
        raise TooMany(MAX_POLY_SHARES)


def factor_of_orbit(equation, share, orbit):
    """The entries of the product of all factors that a share, multiplied by units, tells.

    The factors are turned into one another, so their product has integers.
    """
    order = equation.order
    step = amount_with(equation, share).scaled(sign_by(len(equation)))
    turns = [Turn.whole(order, 1)]
    for unit in orbit:
        turned = step.turned(unit)
        more = [turn.times(turned) for turn in turns]
        zero = [Turn.whole(order, 0)]
        turns = [one.plus(other) for one, other in zip(turns + zero, zero + more)]
    return [integer_in(turn, 1) for turn in turns]


def poly_of_shares(equation, shares):
    """The tuple of the entries of the product of all factors that some shares tell, with all turned ones."""
    order = equation.order
    poly = [1]
    taken = {}
    for share in shares:
        orbit = []
        for unit in units_of(order):
            image = tuple([index * unit % order for index in share])
            if image not in taken:
                taken[image] = True
                orbit.append(unit)
        if len(orbit) > 0:
            poly = multiply_entries(poly, factor_of_orbit(equation, share, orbit))
    return tuple(poly)


def count_polynomial(equation):
    """The tuple of the entries of the count polynomial, that of the power 0 first."""
    check_polynomial_of(equation)
    return poly_of_shares(equation, all_shares(equation))


def count_parts(equation):
    """The pair of the pure part of the count polynomial and of its rest."""
    check_polynomial_of(equation)
    shares = all_shares(equation)
    pure = [share for share in shares if sum(share) % equation.order != 0]
    rest = [share for share in shares if sum(share) % equation.order == 0]
    return poly_of_shares(equation, pure), poly_of_shares(equation, rest)


def counts_by_polynomial(size, terms, poly, many):
    """The tuple of the numbers of solutions over the first towers, told by a count polynomial."""
    if not is_field_size(size):
        raise InvalidCount(size)
    check_count(terms, 1, MAX_TERMS)
    if not isinstance(poly, tuple) or not 1 <= len(poly) <= MAX_POLY_SHARES + 1:
        raise InvalidPolynomial("no tuple of 1 to 61 integers")
    if not all([is_integer(entry) for entry in poly]) or poly[0] != 1:
        raise InvalidPolynomial("no tuple of integers that begins with 1")
    check_count(many, 1, MAX_FOLD)
    places = first_powers(first_powers(size, terms - 1)[-1], many)[1:]
    sums = sums_of_entries(poly, many)
    return tuple([place + sign_by(terms - 1) * total for place, total in zip(places, sums)])
