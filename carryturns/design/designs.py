"""Difference sets made of classes, and words made of traces."""

from math import gcd

from carryturns.base.numbers import order_modulo
from carryturns.errors import InvalidElement, InvalidOperation, TooMany
from carryturns.field.fields import check_element, check_field, check_order, opposite_class
from carryturns.field.lists import sums_with, traces_of
from carryturns.table.tables import class_table
from carryturns.total.totals import is_index

MAX_UNITED = 8


def is_ascending(value):
    """Whether a tuple of integers ascends."""
    return all([one < other for one, other in zip(value, value[1:])])


def check_members(field, members):
    """Refuse what is no field, and no ascending tuple of different elements."""
    check_field(field)
    if not isinstance(members, tuple) or not all([member in field for member in members]):
        raise InvalidElement("no tuple of elements")
    if not is_ascending(members):
        raise InvalidElement("elements that do not ascend")


def check_flag(zero):
    """Refuse what is no boolean."""
    if not isinstance(zero, bool):
        raise InvalidOperation("neither True nor False")


def check_union(field, order, numbers, zero):
    """Refuse what is no field, no order of it, no ascending tuple of numbers of classes, and no boolean."""
    check_field(field)
    check_order(field, order)
    if not isinstance(numbers, tuple) or not all([is_index(order, number) for number in numbers]):
        raise InvalidOperation("no tuple of numbers of classes")
    if not is_ascending(numbers):
        raise InvalidOperation("numbers that do not ascend")
    check_flag(zero)


def count_differences(field, members):
    """The list that has for each element how often it is the difference of two of the members."""
    counts = [0] * field.size
    for member in members:
        differences = sums_with(field, field.opposite(member))
        for other in members:
            counts[differences[other]] += 1
    return counts


def count_gaps(field, members):
    """The list that has for each element how often it is a gap of the members, and a rest for 0."""
    many = len(members)
    if 2 * many <= field.size:
        return count_differences(field, members)
    # Of all elements x, x and x - y are both members, or one of them alone, or none.
    is_member = [False] * field.size
    for member in members:
        is_member[member] = True
    others = [element for element in field if not is_member[element]]
    return [less + 2 * many - field.size for less in count_differences(field, others)]


def gap_counts(field, members):
    """The dict from all elements other than 0 to how often each one is a gap of some elements."""
    check_members(field, members)
    return {element: many for element, many in enumerate(count_gaps(field, members)) if element != 0}


def gaps_in_set(field, many):
    """How often each element is a gap of a difference set of so many elements, or None if there is none."""
    others = field.size - 1
    if not 2 <= many <= others or many * (many - 1) % others != 0:
        return None
    return many * (many - 1) // others


def is_difference_set(field, members):
    """Whether some elements are a difference set."""
    check_members(field, members)
    told = gaps_in_set(field, len(members))
    return told is not None and all([many == told for many in count_gaps(field, members)[1:]])


def union_of(field, order, numbers, *, zero=False):
    """The ascending tuple of the elements of a union of classes, perhaps with 0."""
    check_union(field, order, numbers, zero)
    found = [element for number in numbers for element in field.elements_of(order, number)]
    return tuple(sorted(found + [0] if zero else found))


def gaps_by_table(table, shift, numbers, zero, number):
    """How often an element of a class is a gap of a union, by the table and the class of -1."""
    order = len(table)
    rows = [table[(row - number) % order] for row in numbers]
    many = sum([line[(column - number) % order] for line in rows for column in numbers])
    if zero:
        many += numbers.count(number) + numbers.count((number + shift) % order)
    return many


def union_gaps(field, order, numbers, *, zero=False):
    """The tuple that tells for each class how often its elements are gaps of a union."""
    check_union(field, order, numbers, zero)
    table = class_table(field, order)
    shift = opposite_class(field, order)
    return tuple([gaps_by_table(table, shift, numbers, zero, number) for number in range(order)])


def unions_of(order):
    """The ascending list of all ascending tuples of numbers of classes."""
    unions = [()]
    for number in reversed(range(order)):
        # Those that begin with this number are less than those with greater numbers alone.
        unions = [()] + [(number,) + union for union in unions] + unions[1:]
    return unions


def difference_unions(field, order, *, zero=False):
    """The ascending tuple of the tuples of numbers of classes whose unions are difference sets."""
    check_field(field)
    check_order(field, order)
    check_flag(zero)
    if order > MAX_UNITED:
        raise TooMany(MAX_UNITED)
    table = class_table(field, order)
    shift = opposite_class(field, order)
    step = (field.size - 1) // order
    found = []
    for numbers in unions_of(order):
        told = gaps_in_set(field, len(numbers) * step + (1 if zero else 0))
        if told is not None:
            gaps = [gaps_by_table(table, shift, numbers, zero, number) for number in range(order)]
            if all([many == told for many in gaps]):
                found.append(numbers)
    return tuple(found)


def word_with(field, order, traces, element):
    """The word of an element, by the traces of all elements."""
    powers = field.all_powers()
    many = len(powers) // order
    if element == 0:
        return (0,) * many
    log = field.log_of(element)
    return tuple([traces[powers[(log + order * at) % len(powers)]] for at in range(many)])


def check_word(field, order, element):
    """Refuse what is no field, no order of it, and no element."""
    check_field(field)
    check_order(field, order)
    check_element(field, element)


def word_of(field, order, element):
    """The word of an element."""
    check_word(field, order, element)
    return word_with(field, order, traces_of(field), element)


def weight_in(word):
    """How many residues of a word are not 0."""
    return len(word) - word.count(0)


def weight_of(field, order, element):
    """The weight of the word of an element."""
    check_word(field, order, element)
    return weight_in(word_with(field, order, traces_of(field), element))


def word_dimension(field, order):
    """The exponent with which the prime tells the number of the different words."""
    check_field(field)
    check_order(field, order)
    return order_modulo(field.prime, (field.size - 1) // order)


def weights_by_class(field, order):
    """The tuple of the weights of the words of the classes of which they hang."""
    check_field(field)
    check_order(field, order)
    classes = gcd(order, (field.size - 1) // (field.prime - 1))
    traces = traces_of(field)
    return tuple([weight_in(word_with(field, order, traces, field.power_of(log))) for log in range(classes)])


def weight_counts(field, order):
    """The dict from all weights of words to how many elements have a word of this weight."""
    weights = weights_by_class(field, order)
    # The word of 0 has the weight 0; the classes of the others are equally great.
    counts = {0: 1}
    for weight in weights:
        counts[weight] = counts.get(weight, 0) + (field.size - 1) // len(weights)
    return {weight: counts[weight] for weight in sorted(list(counts))}
