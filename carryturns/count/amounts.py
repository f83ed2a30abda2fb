"""Shares of equations and their amounts; nothing is checked here.

A share has for each term an index other than 0 whose character is 1 at all powers of the term.
"""

from carryturns.base.numbers import units_of
from carryturns.character.characters import sign_of
from carryturns.total.totals import all_totals, product_of_split, split_of
from carryturns.turn.rings import TurnRing
from carryturns.turn.turns import Turn, integer_in, made_turn


def indices_for(equation):
    """The list that has for each term the indices that a share can have there."""
    order = equation.order
    return [list(range(order // exponent, order, order // exponent)) for exponent in equation.exponents]


def share_counts(equation):
    """The list that has for each number of terms, from 0 on, in how many ways the last ones end a share.

    Each item tells it for each rest by the order of the sum of the indices ahead.
    """
    order = equation.order
    ways = [1 if equation.goal != 0 or rest == 0 else 0 for rest in range(order)]
    counts = [ways]
    for indices in reversed(indices_for(equation)):
        ways = [sum([ways[(rest + index) % order] for index in indices]) for rest in range(order)]
        counts.append(ways)
    return counts


def count_shares(equation):
    """The number of the shares."""
    return share_counts(equation)[-1][0]


def all_shares(equation):
    """The ascending list of all shares."""
    order = equation.order
    counts = share_counts(equation)
    shares = [()]
    for at, indices in enumerate(indices_for(equation)):
        # What no further indices make a share is left out at once.
        ways = counts[len(equation.terms) - at - 1]
        longer = [share + (index,) for share in shares for index in indices]
        shares = [share for share in longer if ways[sum(share) % order] > 0]
    return shares


def value_exponent(equation, at, index):
    """The exponent of z in what an index makes of the factor of a term, and of the goal if it is not 0."""
    field = equation.field
    exponent = -index * field.log_of(equation.terms[at][0])
    if equation.goal != 0:
        exponent += index * field.log_of(equation.goal)
    return exponent % equation.order


def weight_of(equation, share):
    """The amount of a share, without the factor q - 1 for the goal 0."""
    field = equation.field
    order = equation.order
    exponent = sum([value_exponent(equation, at, index) for at, index in enumerate(share)])
    factor = 1
    indices = share
    if equation.goal == 0:
        factor = sign_of(field, order, share[-1])
        indices = share[:-1]
    total = product_of_split(field, order, split_of(field, order, indices))
    return total.times(Turn.power(order, exponent)).scaled(factor)


def amount_with(equation, share):
    """The amount of a share."""
    weight = weight_of(equation, share)
    if equation.goal == 0:
        return weight.scaled(equation.field.size - 1)
    return weight


def step_factor(equation, totals, at, rest, index):
    """The entries that tell what an index of a term makes of the product so far, ahead of which a rest is left.

    These are the factors of the sum J of all indices.
    """
    field = equation.field
    order = equation.order
    zeros = totals[0][0].entries[1:]
    if at == 0:
        return (1,) + zeros
    if equation.goal == 0 and at == len(equation.terms) - 1:
        return (sign_of(field, order, index),) + zeros
    if rest == 0:
        # By Gauss sums: J(a, -a) is minus the sign of a, and J(a, -a, b) the sign of a times q.
        return (-field.size,) + zeros
    return totals[rest][index].entries


def is_kept(equation, at, rest):
    """Whether indices with a sum that leaves a rest can be the ones of the terms up to this one."""
    return equation.goal != 0 or at < len(equation.terms) - 1 or rest == 0


def sum_with_rest(equation, totals, at, sums, many, both):
    """The sum of the products that go with the indices up to a term whose sum leaves a rest."""
    order = equation.order
    ring = TurnRing(order)
    total = ring.whole_entries(0)
    for index in indices_for(equation)[at]:
        rest = (both - index) % order
        if sums[rest] is not None:
            factor = step_factor(equation, totals, at, rest, index)
            turned = ring.rolled(factor, value_exponent(equation, at, index))
            total = added(total, ring.product(sums[rest], ring.powered(turned, many)))
    return total


def longer_sums(equation, totals, at, sums, many):
    """The list that has for each rest of indices up to a term the sum of the products that go with them.

    The list for the indices ahead of this term is passed. All sums are told by entries, and None
    stands where there are no such indices.
    """
    order = equation.order
    ring = TurnRing(order)
    longer = [None] * order
    for both in range(order):
        if longer[both] is None and is_kept(equation, at, both):
            total = sum_with_rest(equation, totals, at, sums, many, both)
            # With all indices multiplied by a unit, everything is turned.
            for unit in units_of(order):
                longer[unit * both % order] = ring.turned_by(total, unit)
    return longer


def added(one, other):
    """The sum of two turn numbers, told by their entries."""
    return tuple([first + second for first, second in zip(one, other)])


def sum_of_weights(equation, many):
    """The integer that is the sum of the powers, with an exponent, of the weights of all shares.

    A weight is a product, step by step, whose factors hang on the last index and on the sum of those
    ahead: so the shares are added up together that leave the same sum.
    """
    order = equation.order
    totals = all_totals(equation.field, order)
    zero = (0,) * len(totals[0][0].entries)
    sums = [(1,) + zero[1:]] + [None] * (order - 1)
    for at in range(len(equation.terms)):
        sums = longer_sums(equation, totals, at, sums, many)
    total = zero
    for last in sums:
        if last is not None:
            total = added(total, last)
    return integer_in(made_turn(order, None, total), 1)
