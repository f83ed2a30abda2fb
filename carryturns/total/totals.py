"""Sums J: products of values of characters, added up over all tuples of elements whose sum is 1."""

from math import gcd

from carryturns.base.numbers import first_powers, is_integer
from carryturns.base.products import digits_above, packed, unpacked
from carryturns.character.characters import are_turns, sign_of
from carryturns.errors import InvalidCharacter, InvalidPaper, InvalidTable, InvalidTurn
from carryturns.field.fields import check_field, check_order
from carryturns.table.tables import class_table, frozen, is_square, is_table
from carryturns.turn.rings import TurnRing, width_of
from carryturns.turn.turns import Turn, integer_in, made_turn, turn_of_sums

MAX_TERMS = 6

MAX_ENTRY = 512


def is_index(order, value):
    """Whether the value is an index of a character."""
    return is_integer(value) and 0 <= value < order


def check_indices(field, order, indices):
    """Refuse what is no field, no order of it, and no tuple of one to six indices."""
    check_field(field)
    check_order(field, order)
    if not isinstance(indices, tuple) or not 1 <= len(indices) <= MAX_TERMS:
        raise InvalidCharacter("no tuple of one to six indices")
    if not all([is_index(order, index) for index in indices]):
        raise InvalidCharacter("no tuple of indices")


def is_proper_pair(order, value):
    """Whether the value is a pair of indices which are not 0, and neither is their sum."""
    if not isinstance(value, tuple) or len(value) != 2:
        return False
    if not all([is_index(order, index) and index != 0 for index in value]):
        return False
    return sum(value) != order


def is_split(order, value):
    """Whether the value is a pair of an integer and of a tuple of at most six pairs."""
    if not isinstance(value, tuple) or len(value) != 2 or not is_integer(value[0]):
        return False
    if not isinstance(value[1], tuple) or len(value[1]) > MAX_TERMS:
        return False
    return all([is_proper_pair(order, pair) for pair in value[1]])


def trivial_factor(field, indices):
    """The integer by which the indices that are 0 multiply the sum of the others."""
    many = len(indices)
    if any(indices):
        return 1 if indices.count(0) % 2 == 0 else -1
    sign = 1 if many % 2 == 0 else -1
    return (first_powers(field.size - 1, many)[-1] - sign) // field.size


def split_of(field, order, indices):
    """The pair of an integer and of a tuple of pairs of indices that make the sum as a product."""
    factor = trivial_factor(field, indices)
    left = [index for index in indices if index != 0]
    pairs = []
    while len(left) >= 2:
        one, other = left[:2]
        both = (one + other) % order
        if both != 0:
            pairs.append((one, other))
            left = [both] + left[2:]
        elif len(left) == 2:
            factor = -factor * sign_of(field, order, one)
            left = []
        else:
            factor = factor * sign_of(field, order, one) * field.size
            left = left[2:]
    return factor, tuple(pairs)


def total_of_pair(field, order, one, other):
    """The sum of two indices, by the logs of all elements other than 0 and 1."""
    nexts = field.next_logs()
    half = field.log_of(field.opposite(1))
    sums = [0] * order
    for log in range(len(nexts)):
        # What an element leaves of 1 is its opposite and 1.
        following = nexts[(log + half) % len(nexts)]
        if following is not None:
            sums[(one * log + other * following) % order] += 1
    return turn_of_sums(order, sums)


def product_of_split(field, order, split):
    """The integer of a split, multiplied by the sums of its pairs."""
    factor, pairs = split
    product = Turn.whole(order, 1)
    for one, other in pairs:
        product = product.times(total_of_pair(field, order, one, other))
    return product.scaled(factor)


def jacobi(field, order, indices):
    """The sum J of a tuple of indices, a turn number."""
    check_indices(field, order, indices)
    return product_of_split(field, order, split_of(field, order, indices))


def is_jacobi(field, order, indices, value):
    """Whether the value is the sum J of a tuple of indices."""
    return jacobi(field, order, indices) == value


def jacobi_split(field, order, indices):
    """The split of a tuple of indices."""
    check_indices(field, order, indices)
    return split_of(field, order, indices)


def split_value(field, order, split):
    """The integer of a split, multiplied by its sums J."""
    check_field(field)
    check_order(field, order)
    if not is_split(order, split):
        raise InvalidPaper("no split")
    return product_of_split(field, order, split)


def cells_of(table):
    """The list of the rows, the columns and the entries of a table, where these are not 0."""
    return [(at, to, many) for at, row in enumerate(table) for to, many in enumerate(row) if many != 0]


def sums_of_cells(field, order, cells, one, other):
    """The list of how often each power of z is there in what the cells of a table make of two indices."""
    sums = [0] * order
    for at, to, many in cells:
        place = (one * at + other * to) % order
        sums[place] = sums[place] + many
    return sums if sign_of(field, order, one) == 1 else [-many for many in sums]


def inverse_pairs(order):
    """The list of the pairs of a unit modulo the order, from 1 on, and of the unit that makes 1 with it."""
    units = [unit for unit in range(1, order + 1) if gcd(unit, order) == 1]
    return [(unit, other) for unit in units for other in units if (unit * other - 1) % order == 0]


def rows_of_totals(field, order, table):
    """The list of the lists of what a table makes of two indices."""
    ring = TurnRing(order)
    cells = cells_of(table)
    pairs = inverse_pairs(order)
    places = list(range(order))
    rows = [[None] * order for _ in places]
    for one, other in [(row, column) for row in places for column in places]:
        if rows[one][other] is None:
            sums = sums_of_cells(field, order, cells, one, other)
            # Turned by a unit, it is what the table makes of the indices, multiplied by the unit.
            for unit, back in pairs:
                first, second = unit * one % order, unit * other % order
                if rows[first][second] is None:
                    entries = ring.reduced([sums[back * at % order] for at in places])
                    rows[first][second] = made_turn(order, ring, entries)
    return rows


def all_totals(field, order):
    """The tuple that has for each index the tuple of its sums J with all indices."""
    table = class_table(field, order)
    return totals_by_table(field, order, table)


def totals_by_table(field, order, table):
    """What a table makes of all pairs of indices."""
    check_field(field)
    check_order(field, order)
    if not is_table(order, table) or not all([0 <= entry <= MAX_ENTRY for row in table for entry in row]):
        raise InvalidTable("no table of integers from 0 to 512")
    return frozen(rows_of_totals(field, order, table))


def shifted_sum(order, numbers, step, digits):
    """The sum of packed polynomials, each times the power of z that its index and a step tell."""
    total = 0
    for index, number in enumerate(numbers):
        total = total + (number << (index * step % order * 4 * digits))
    return total


def packed_rows(field, order, totals, digits):
    """The list of the lists of the entries of a table, packed, as the totals make them.

    The steps by columns come first, then those by rows; nothing is reduced in between.
    """
    places = list(range(order))
    sums = []
    for one, row in enumerate(totals):
        numbers = [packed(turn.entries, digits) * sign_of(field, order, one) for turn in row]
        sums.append([shifted_sum(order, numbers, -to, digits) for to in places])
    return [[shifted_sum(order, [row[to] for row in sums], -at, digits) for to in places] for at in places]


def table_by_totals(field, order, totals):
    """The table that makes the totals, if all its entries are integers."""
    check_field(field)
    check_order(field, order)
    if not is_square(order, totals) or not all([are_turns(order, row) for row in totals]):
        raise InvalidTurn("no tuple of tuples of turn numbers of the order")
    most = max([abs(entry) for row in totals for turn in row for entry in turn.entries])
    digits = digits_above(most * order * order)
    ring = TurnRing(order)
    # Each of both steps makes the powers of z go up by less than the order.
    many = 2 * order + width_of(order)
    table = []
    for row in packed_rows(field, order, totals, digits):
        sums = [ring.reduced(unpacked(number, many, digits)) for number in row]
        table.append([integer_in(made_turn(order, ring, entries), order * order) for entries in sums])
    return frozen(table)


def are_totals(field, order, value):
    """Whether the value is the tuple of all sums of two indices."""
    return all_totals(field, order) == value
