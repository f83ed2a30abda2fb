"""Pledges: what is to hold of the turn numbers and equations on a bench; nothing is checked here."""

from carryturns.base.numbers import units_of
from carryturns.carry.carries import left_at_generator
from carryturns.count.equations import count_by_classes
from carryturns.total.totals import is_index, jacobi


def holds_of_turn(field, pledge, turn):
    """Whether a pledge with one turn number holds of it."""
    word = pledge[0]
    if word == "norm":
        return turn.norm() == pledge[2]
    if word == "left":
        return left_at_generator(field, turn) == pledge[2]
    indices = pledge[2:]
    if not all([is_index(turn.order, index) for index in indices]):
        return False
    return jacobi(field, turn.order, indices) == turn


def are_alike(one, other):
    """Whether two turn numbers have one order, and one of them is the other one, turned by some unit."""
    if one.order != other.order:
        return False
    # If one is turned to the other by a unit, the other is turned to it by the inverse of the unit.
    return any([one.turned(unit) == other for unit in units_of(one.order)])


def holds(field, turns, equations, pledge):
    """Whether a pledge holds of dicts from names to turn numbers and to equations."""
    word, name, other = pledge[:3]
    if word in ("count", "even"):
        if name not in equations or (word == "even" and other not in equations):
            return False
        told = other if word == "count" else count_by_classes(equations[other])
        return count_by_classes(equations[name]) == told
    if name not in turns or (word == "like" and other not in turns):
        return False
    if word == "like":
        return are_alike(turns[name], turns[other])
    return holds_of_turn(field, pledge, turns[name])
