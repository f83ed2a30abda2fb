"""Tables of classes: how often an element of one class has its successor in another class."""

from math import gcd

from carryturns.base.numbers import check_count, is_integer
from carryturns.errors import InvalidOrder, InvalidTable
from carryturns.field.fields import check_field, check_order, opposite_class
from carryturns.turn.turns import check_turning

MAX_JUDGED = 24


def is_table(order, value):
    """Whether the value is a table of integers with so many rows."""
    return is_square(order, value) and all([is_integer(entry) for row in value for entry in row])


def is_square(order, value):
    """Whether the value is a tuple of so many tuples of so many values."""
    if not isinstance(value, tuple) or len(value) != order:
        return False
    return all([isinstance(row, tuple) and len(row) == order for row in value])


def check_table(table):
    """Refuse what is no table of integers, of 1 to 24 rows."""
    if not isinstance(table, tuple) or not 1 <= len(table) <= MAX_JUDGED or not is_table(len(table), table):
        raise InvalidTable("no table of integers")


def check_table_of(order, table):
    """Refuse what is no table of integers with so many rows."""
    if not is_table(order, table):
        raise InvalidTable("no table of integers with as many rows as the order")


def frozen(rows):
    """The tuple of tuples of a list of lists."""
    return tuple([tuple(row) for row in rows])


def turned_rows(table, unit):
    """The table that has at each place what the table has at the unit times the place."""
    numbers = [unit * at % len(table) for at in range(len(table))]
    return tuple([tuple([table[row][column] for column in numbers]) for row in numbers])


def images_of(field, order, place):
    """The places to which the three rules lead a place."""
    row, column = place
    shift = opposite_class(field, order)
    prime = field.prime
    return (
        (-row % order, (column - row) % order),
        ((column + shift) % order, (row + shift) % order),
        (prime * row % order, prime * column % order),
    )


def orbit_of(field, order, place):
    """The ascending tuple of the places that hang together with a place."""
    found = {place: True}
    waiting = [place]
    while waiting:
        last = waiting.pop()
        for image in images_of(field, order, last):
            if image not in found:
                found[image] = True
                waiting.append(image)
    return tuple(sorted(found))


def class_table(field, order):
    """The table of a field and an order."""
    check_field(field)
    check_order(field, order)
    rows = [[0] * order for _ in range(order)]
    for log, following in enumerate(field.next_logs()):
        if following is not None:
            rows[log % order][following % order] += 1
    return frozen(rows)


def orbits(field, order):
    """The tuple of the orbits of all places, in the order of their least places."""
    check_field(field)
    check_order(field, order)
    found = []
    known = {}
    for place in [(row, column) for row in range(order) for column in range(order)]:
        if place not in known:
            orbit = orbit_of(field, order, place)
            found.append(orbit)
            known.update({image: True for image in orbit})
    return tuple(found)


def turned_table(table, unit):
    """The table turned by a unit."""
    check_table(table)
    check_turning(unit, len(table))
    return turned_rows(table, unit)


def lesser_table(table, order):
    """The table of a divisor of the number of the rows."""
    check_table(table)
    if not is_integer(order) or order < 1 or len(table) % order != 0:
        raise InvalidOrder("no divisor of the number of the rows")
    rows = [[0] * order for _ in range(order)]
    for at, row in enumerate(table):
        for to, entry in enumerate(row):
            rows[at % order][to % order] += entry
    return frozen(rows)


def is_table_of(field, order, value):
    """Whether the value is the table of the field and the order."""
    table = class_table(field, order)
    return is_table(order, value) and value == table


def turning_unit(field, order, value):
    """The least integer by which the table is turned to the value, or None."""
    table = class_table(field, order)
    if not is_table(order, value):
        return None
    for unit in range(1, order + 1):
        if gcd(unit, order) == 1 and turned_rows(table, unit) == value:
            return unit
    return None


def sums_hold(field, order, table):
    """Whether rows and columns add up as those of the table of the field do."""
    check_field(field)
    check_order(field, order)
    check_table_of(order, table)
    many = (field.size - 1) // order
    shift = opposite_class(field, order)
    for at in range(order):
        if sum(table[at]) != (many - 1 if at == shift else many):
            return False
        if sum([row[at] for row in table]) != (many - 1 if at == 0 else many):
            return False
    return True


def rules_hold(field, order, table):
    """Whether the entries of each orbit are equal."""
    check_field(field)
    check_order(field, order)
    check_table_of(order, table)
    for at in range(order):
        for to in range(order):
            for row, column in images_of(field, order, (at, to)):
                if table[row][column] != table[at][to]:
                    return False
    return True


def pairs_adding(field, order, one, other):
    """The number of the pairs of elements of two classes whose sum is 1."""
    table = class_table(field, order)
    check_count(one, 0, order - 1)
    check_count(other, 0, order - 1)
    return table[(one + opposite_class(field, order)) % order][other]
