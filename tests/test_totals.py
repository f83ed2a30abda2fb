"""Sums J: [0.12], [0.14] and [7.1] to [7.6], held against sums over all tuples of elements."""

import itertools
import random
import unittest

from carryturns.errors import InvalidOperation
from carryturns.field.fields import Field, opposite_class
from carryturns.table.tables import class_table, turned_table
from carryturns.total.totals import (
    all_totals, are_totals, is_jacobi, jacobi, jacobi_split, split_value, table_by_totals, totals_by_table,
)
from carryturns.turn.turns import Turn
from tests import plain_classes, plain_turns
from tests.support import all_kinds, assert_raises

FIELDS = plain_classes.small_fields()
# For each number of indices the fields with few enough tuples, and how many of the tuples of indices are tried.
TRIED = ((1, 25, 1), (2, 19, 1), (3, 9, 1), (4, 5, 1), (5, 4, 1), (6, 3, 1), (3, 13, 7), (4, 7, 11), (5, 5, 29), (6, 4, 31))


def product(turns, order):
    """The product of turn numbers."""
    found = Turn.whole(order, 1)
    for turn in turns:
        found = found.times(turn)
    return found


def proper_pairs(order):
    """All pairs of indices that are not 0, with a sum that is not 0."""
    return [(a, b) for a in range(1, order) for b in range(1, order) if (a + b) % order]


class Sums(unittest.TestCase):
    def test_over_all_tuples(self):
        for many, most, step in TRIED:
            for field in plain_classes.small_fields(most):
                for order in field.orders:
                    for indices in list(itertools.product(range(order), repeat=many))[::step]:
                        told = plain_classes.sum_j(field, order, indices)
                        total = jacobi(field, order, indices)
                        self.assertEqual((total.order, total.entries), (order, told), (field.size, indices))

    def test_pairs_over_greater_fields(self):
        for field in (Field(73), Field(7, 2), Field(2, 6), Field(509), Field(3, 5)):
            for order in field.orders:
                for a, b in list(itertools.product(range(order), repeat=2))[::1 + order * order // 7]:
                    told = plain_classes.sum_j(field, order, (a, b))
                    self.assertEqual(jacobi(field, order, (a, b)).entries, told)

    def test_great_totals_make_great_tables(self):
        for field, order in ((Field(7), 3), (Field(7, 2), 24), (Field(2, 4), 15), (Field(2), 1)):
            for number in (1, 15, 2 ** 20 - 1, 16 ** 7 - 1, 10 ** 60 - 1, 1 - 10 ** 60):
                totals = ((Turn.whole(order, number),) * order,) * order
                first = (number,) + (0,) * (order - 1)
                self.assertEqual(table_by_totals(field, order, totals), (first,) + ((0,) * order,) * (order - 1))
                long = tuple(tuple(turn.raised(3) for turn in row) for row in totals)
                self.assertEqual(table_by_totals(field, order, long)[0][0], number ** 3)

    def test_sequence_does_not_matter(self):
        chance = random.Random(71)
        for field in FIELDS:
            for order in field.orders:
                indices = [chance.randrange(order) for _ in range(6)]
                total = jacobi(field, order, tuple(indices))
                for _ in range(5):
                    chance.shuffle(indices)
                    self.assertEqual(jacobi(field, order, tuple(indices)), total)

    def test_one_index(self):
        for field in FIELDS:
            for order in field.orders:
                for a in range(order):
                    self.assertEqual(jacobi(field, order, (a,)), Turn.whole(order, 1))

    def test_trivial_ones(self):
        for field in FIELDS + [Field(509), Field(2, 9)]:
            q = field.size
            for order in field.orders:
                for many in range(1, 7):
                    told = ((q - 1) ** many - (-1) ** many) // q
                    self.assertEqual(jacobi(field, order, (0,) * many), Turn.whole(order, told))
                for a in range(1, order):
                    sign = plain_classes.sign(field, order, a) if q < 30 else None
                    if sign is not None:
                        self.assertEqual(jacobi(field, order, (a, order - a)), Turn.whole(order, -sign))
                        for b in range(1, order):
                            told = Turn.whole(order, sign * q)
                            self.assertEqual(jacobi(field, order, (a, order - a, b)), told)
                            self.assertEqual(jacobi(field, order, (b, a, order - a)), told)
                    for zeros in range(1, 4):
                        told = jacobi(field, order, (a, a)).scaled((-1) ** zeros)
                        self.assertEqual(jacobi(field, order, (a,) + (0,) * zeros + (a,)), told)

    def test_rules_of_two_indices(self):
        for field in FIELDS + [Field(31), Field(7, 2), Field(73)]:
            q = field.size
            for order in field.orders:
                half = None if field.prime == 2 else field.log_of(field.times(2 % q, 2 % q))
                for a, b in proper_pairs(order)[::1 + order // 7]:
                    total = jacobi(field, order, (a, b))
                    self.assertEqual(total.times(total.mirrored()), Turn.whole(order, q))
                    for unit in plain_turns.units(order):
                        turned = (unit * a % order, unit * b % order)
                        self.assertEqual(jacobi(field, order, turned), total.turned(unit))
                    led = (field.prime * a % order, field.prime * b % order)
                    self.assertEqual(jacobi(field, order, led), total)
                if order % 2 == 0 and half is not None and field.prime > 2:
                    four = field.plus(field.plus(1, 1), field.plus(1, 1))
                    for a in range(1, order):
                        told = Turn.power(order, -a * field.log_of(four))
                        told = told.times(jacobi(field, order, (a, order // 2)))
                        self.assertEqual(jacobi(field, order, (a, a)), told)

    def test_the_third_index(self):
        for field in FIELDS:
            for order in field.orders:
                for a, b in itertools.product(range(order), repeat=2):
                    told = jacobi(field, order, (a, -(a + b) % order)).scaled(plain_classes.sign(field, order, a))
                    self.assertEqual(jacobi(field, order, (a, b)), told)

    def test_near_minus_one(self):
        for field, order in ((Field(7), 3), (Field(11), 5), (Field(2, 4), 5), (Field(29), 7), (Field(23), 11)):
            square = Turn.whole(order, 1).minus(Turn.power(order, 1)).raised(2)
            for a, b in proper_pairs(order):
                total = jacobi(field, order, (a, b))
                self.assertIsNotNone(total.plus(Turn.whole(order, 1)).divided(square))


class Splits(unittest.TestCase):
    def split(self, field, order, indices):
        """The split, as [7.2] and [7.3] tell it, index by index."""
        q, zeros = field.size, sum(index == 0 for index in indices)
        if zeros == len(indices):
            return ((q - 1) ** zeros - (-1) ** zeros) // q, ()
        factor, pairs = (-1) ** zeros, ()
        queue = [index for index in indices if index != 0]
        while len(queue) > 1:
            a, b = queue.pop(0), queue.pop(0)
            if (a + b) % order:
                pairs += ((a, b),)
                queue.insert(0, (a + b) % order)
            else:
                factor *= plain_classes.sign(field, order, a) * (q if queue else -1)
        return factor, pairs

    def test_all_small_ones(self):
        chance = random.Random(72)
        for field in FIELDS:
            for order in field.orders:
                for many in range(1, 7):
                    for _ in range(6):
                        indices = tuple(chance.randrange(order) for _ in range(many))
                        found = jacobi_split(field, order, indices)
                        self.assertEqual(repr(found), repr(self.split(field, order, indices)))
                        self.assertTrue(all(pair in proper_pairs(order) for pair in found[1]))
                        self.assertEqual(split_value(field, order, found), jacobi(field, order, indices))

    def test_values(self):
        for field in plain_classes.small_fields(13):
            for order in field.orders:
                pairs = proper_pairs(order)[:6]
                for factor in (0, 1, -7, 10 ** 60 - 1):
                    told = product([jacobi(field, order, pair) for pair in pairs], order).scaled(factor)
                    self.assertEqual(split_value(field, order, (factor, tuple(pairs))), told)
                self.assertEqual(split_value(field, order, (5, ())), Turn.whole(order, 5))
                if pairs:
                    one = jacobi(field, order, pairs[0])
                    self.assertEqual(split_value(field, order, (1, (pairs[0],) * 6)), one.raised(6))


class Judging(unittest.TestCase):
    def test_sums(self):
        for field in plain_classes.small_fields(9):
            for order in field.orders:
                for indices in itertools.product(range(order), repeat=2):
                    total = jacobi(field, order, indices)
                    again = Turn(order, total.entries)
                    self.assertIs(is_jacobi(field, order, indices, again), True)
                    self.assertIs(is_jacobi(field, order, indices, total.opposite()), total.is_zero)
                    self.assertIs(is_jacobi(field, order, indices, total.plus(Turn.whole(order, 1))), False)
                    self.assertIs(is_jacobi(field, order, indices, total.lifted(2 * order)), False)
                    self.assertIs(is_jacobi(field, order, indices, total.entries), False)

    def test_any_value_is_no_sum(self):
        for value in all_kinds():
            told = isinstance(value, Turn) and (value.order, value.entries) == (3, (-1, -3))
            self.assertIs(is_jacobi(Field(7), 3, (1, 1), value), told)
            told = isinstance(value, Turn) and (value.order, value.entries) == (1, (0,))
            self.assertIs(is_jacobi(Field(2), 1, (0, 0), value), told)
            self.assertIs(are_totals(Field(7), 3, value), False)
            self.assertIs(are_totals(Field(2), 1, value), False)

    def test_totals(self):
        for field in plain_classes.small_fields(9):
            for order in field.orders:
                told = tuple(tuple(Turn(order, plain_classes.sum_j(field, order, (a, b))) for b in range(order))
                             for a in range(order))
                self.assertIs(are_totals(field, order, told), True)
                self.assertEqual(all_totals(field, order), told)
                self.assertIs(are_totals(field, order, list(told)), False)
                self.assertIs(are_totals(field, order, tuple(map(list, told))), False)
                self.assertIs(are_totals(field, order, told + told[:1]), False)
                self.assertIs(are_totals(field, order, told[1:]), False)
                for at in range(order):
                    row = told[at][:-1] + (told[at][-1].plus(Turn.whole(order, 1)),)
                    self.assertIs(are_totals(field, order, told[:at] + (row,) + told[at + 1:]), False)
        self.assertIs(are_totals(Field(2), 1, ((Turn(1, (0,)),),)), True)
        self.assertIs(are_totals(Field(2), 1, ((0,),)), False)


class ByTables(unittest.TestCase):
    def test_all_totals(self):
        for field in FIELDS + [Field(31), Field(7, 2), Field(3, 5), Field(2, 9), Field(73)]:
            for order in field.orders:
                totals = all_totals(field, order)
                self.assertTrue(type(totals) is tuple and all(type(row) is tuple for row in totals))
                self.assertEqual([len(row) for row in totals], [order] * order)
                for a, b in list(itertools.product(range(order), repeat=2))[::1 + order // 3]:
                    self.assertEqual(totals[a][b], jacobi(field, order, (a, b)))

    def test_there_and_back(self):
        for field in FIELDS + [Field(31), Field(7, 2), Field(3, 5), Field(2, 9), Field(73)]:
            for order in field.orders:
                table = class_table(field, order)
                totals = totals_by_table(field, order, table)
                self.assertEqual(totals, all_totals(field, order))
                self.assertEqual(repr(table_by_totals(field, order, totals)), repr(table))

    def plain_totals(self, field, order, table):
        """What [7.5] makes of a table, entry by entry."""
        rows = []
        for a in range(order):
            row = []
            for b in range(order):
                powers = {}
                for i, j in itertools.product(range(order), repeat=2):
                    exponent = (a * i + b * j) % order
                    powers[exponent] = powers.get(exponent, 0) + table[i][j]
                entries = plain_turns.entries_of(order, powers)
                row.append(Turn(order, entries).scaled(plain_classes.sign(field, order, a)))
            rows.append(tuple(row))
        return tuple(rows)

    def test_any_table(self):
        chance = random.Random(73)
        for field in FIELDS:
            for order in field.orders:
                table = tuple(tuple(chance.choice((0, 1, 512, 77)) for _ in range(order)) for _ in range(order))
                totals = totals_by_table(field, order, table)
                if order < 9:
                    self.assertEqual(totals, self.plain_totals(field, order, table))
                self.assertEqual(table_by_totals(field, order, totals), table)

    def test_turned_tables(self):
        for field in FIELDS:
            for order in field.orders:
                for unit in plain_classes.units(order):
                    table = turned_table(class_table(field, order), unit)
                    totals = totals_by_table(field, order, table)
                    for a in range(order):
                        for b in range(0, order, 1 + order // 3):
                            # The logs are taken by the generator raised to the unit, and so are the characters.
                            inverse = [low for low in range(order) if low * unit % order == 1 % order][0]
                            told = jacobi(field, order, (inverse * a % order, inverse * b % order))
                            self.assertEqual(totals[a][b], told)

    def test_tables_with_any_integers(self):
        seven = Field(7)
        # Turn numbers that are no sums of a table of integers from 0 to 512 can be those of other integers.
        totals = tuple(tuple(turn.scaled(-(10 ** 58)) for turn in row) for row in all_totals(seven, 3))
        told = tuple(tuple(-(10 ** 58) * entry for entry in row) for row in class_table(seven, 3))
        self.assertEqual(table_by_totals(seven, 3, totals), told)
        zero = ((Turn.whole(3, 0),) * 3,) * 3
        self.assertEqual(table_by_totals(seven, 3, zero), ((0,) * 3,) * 3)

    def test_no_integers(self):
        for field, order in ((Field(7), 3), (Field(3, 2), 4), (Field(5), 2), (Field(2, 4), 5), (Field(5, 2), 24)):
            totals = all_totals(field, order)
            for a, b in list(itertools.product(range(order), repeat=2))[::1 + order * order // 5]:
                for more in (Turn.whole(order, 1), Turn.power(order, 1), Turn.whole(order, order)):
                    row = totals[a][:b] + (totals[a][b].plus(more),) + totals[a][b + 1:]
                    wrong = totals[:a] + (row,) + totals[a + 1:]
                    assert_raises(self, InvalidOperation, None, table_by_totals, field, order, wrong)
                    self.assertIs(are_totals(field, order, wrong), False)

    def test_no_integers_but_turn_numbers(self):
        # All entries would be z.
        totals = [[Turn.whole(4, 0)] * 4 for _ in range(4)]
        totals[0][0] = Turn.power(4, 1).scaled(16)
        wrong = tuple(map(tuple, totals))
        assert_raises(self, InvalidOperation, None, table_by_totals, Field(5), 4, wrong)
        totals[0][0] = Turn.whole(4, 16)
        self.assertEqual(table_by_totals(Field(5), 4, tuple(map(tuple, totals))), ((1,) * 4,) * 4)

    def test_signs_are_those_of_the_field(self):
        self.assertEqual([opposite_class(Field(7), 2), opposite_class(Field(5), 2)], [1, 0])
        table = ((1, 2), (3, 4))
        self.assertEqual([turn.entries[0] for turn in totals_by_table(Field(7), 2, table)[1]], [4, 0])
        self.assertEqual([turn.entries[0] for turn in totals_by_table(Field(5), 2, table)[1]], [-4, 0])


class NotTrue(unittest.TestCase):
    def test_the_square_is_not_always_the_size(self):
        for indices in ((0, 0), (0, 1), (1, 2)):
            total = jacobi(Field(7), 3, indices)
            self.assertNotEqual(total.times(total.mirrored()), Turn.whole(3, 7))

    def test_what_looks_like_a_sum(self):
        # 1 + 3z times -z - z^2 has the same norm, and J(1, 1) of the order 4 is an integer over nine elements.
        seven, square = Field(7), Turn(3, (1, -1)).raised(2)
        alike = []
        for entries in itertools.product(range(-9, 10), repeat=2):
            turn = Turn(3, entries)
            whole = turn.times(turn.mirrored()) == Turn.whole(3, 7)
            if whole and turn.plus(Turn.whole(3, 1)).divided(square) is not None:
                alike.append(turn)
        sums = [jacobi(seven, 3, indices) for indices in ((1, 1), (2, 2))]
        self.assertEqual(sorted(turn.entries for turn in alike), sorted(turn.entries for turn in sums))
        # For one sum there is another turn number with both properties: the sum of the other place.
        self.assertIs(is_jacobi(seven, 3, (1, 1), sums[1]), False)
        nine = jacobi(Field(3, 2), 4, (1, 1))
        self.assertEqual(nine.entries, (3, 0))


if __name__ == "__main__":
    unittest.main()
