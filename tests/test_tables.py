"""Tables of classes: [0.10], [0.13] and [6.1] to [6.6], held against counting."""

import itertools
import unittest

from carryturns.field.fields import Field, opposite_class
from carryturns.table.tables import (
    class_table, is_table_of, lesser_table, orbits, pairs_adding, rules_hold, sums_hold, turned_table, turning_unit,
)
from tests import plain_classes
from tests.support import all_kinds

FIELDS = plain_classes.small_fields()
GREAT = [Field(73), Field(7, 2), Field(2, 9), Field(509), Field(3, 4), Field(97), Field(457)]


def changed(table, row, column, entry):
    """The table with another entry."""
    rows = [list(line) for line in table]
    rows[row][column] = entry
    return tuple(map(tuple, rows))


def led_places(field, order, place):
    """The three places to which the rules lead a place, as [6.2] writes them."""
    i, j = place
    e = opposite_class(field, order)
    p = field.prime
    return [(-i % order, (j - i) % order), ((j + e) % order, (i + e) % order), (p * i % order, p * j % order)]


class Tables(unittest.TestCase):
    def test_by_counting(self):
        for field in FIELDS + GREAT:
            for order in field.orders:
                table = class_table(field, order)
                self.assertEqual(table, plain_classes.table_of(field, order))
                self.assertEqual(repr(table), repr(plain_classes.table_of(field, order)))

    def test_edges(self):
        self.assertEqual(class_table(Field(2), 1), ((0,),))
        self.assertEqual(class_table(Field(3), 2), ((0, 1), (0, 0)))
        self.assertEqual(class_table(Field(509), 1), ((507,),))
        self.assertEqual(len(class_table(Field(73), 24)), 24)

    def test_sums_and_rules(self):
        for field in FIELDS + GREAT:
            for order in field.orders:
                table = class_table(field, order)
                many = (field.size - 1) // order
                shift = opposite_class(field, order)
                for at in range(order):
                    self.assertEqual(sum(table[at]), many - (at == shift))
                    self.assertEqual(sum(row[at] for row in table), many - (at == 0))
                self.assertEqual(sum(map(sum, table)), field.size - 2)
                self.assertIs(sums_hold(field, order, table), True)
                self.assertIs(rules_hold(field, order, table), True)

    def test_sums_that_do_not_hold(self):
        for field in plain_classes.small_fields(13):
            for order in field.orders:
                table = class_table(field, order)
                for row in range(order):
                    for column in range(order):
                        for step in (-1, 1, 10 ** 59):
                            other = changed(table, row, column, table[row][column] + step)
                            self.assertIs(sums_hold(field, order, other), False)

    def test_only_rows_or_only_columns(self):
        # The sums of the rows are right, those of the columns are not, and the other way round.
        self.assertIs(sums_hold(Field(7), 3, ((0, 0, 1), (0, 1, 1), (1, 1, 0))), True)
        self.assertIs(sums_hold(Field(7), 3, ((1, 0, 0), (0, 1, 1), (1, 1, 0))), False)
        self.assertIs(sums_hold(Field(7), 3, ((0, 1, 1), (0, 0, 1), (1, 1, 0))), False)
        self.assertIs(sums_hold(Field(7), 3, ((-1, 0, 2), (0, 1, 1), (2, 1, -1))), True)

    def test_rules_that_do_not_hold(self):
        for field in plain_classes.small_fields(17):
            for order in field.orders:
                table = class_table(field, order)
                for orbit in orbits(field, order):
                    more = table
                    for row, column in orbit:
                        other = changed(table, row, column, table[row][column] + 1)
                        self.assertIs(rules_hold(field, order, other), len(orbit) == 1)
                        more = changed(more, row, column, table[row][column] + 1)
                    self.assertIs(rules_hold(field, order, more), True)
                self.assertIs(rules_hold(field, order, ((-5,) * order,) * order), True)

    def test_orbits(self):
        for field in FIELDS + GREAT[:3]:
            for order in field.orders:
                found = orbits(field, order)
                places = list(itertools.product(range(order), repeat=2))
                self.assertEqual(sorted(place for orbit in found for place in orbit), places)
                number = {place: at for at, orbit in enumerate(found) for place in orbit}
                self.assertTrue(all(type(orbit) is tuple and orbit == tuple(sorted(orbit)) for orbit in found))
                self.assertEqual([orbit[0] for orbit in found], sorted(orbit[0] for orbit in found))
                # A number for each place, the same for all places that are led to one another, until nothing changes.
                label = {place: place for place in places}
                for _ in range(2 * len(places)):
                    before = dict(label)
                    for place in places:
                        for other in led_places(field, order, place):
                            label[place] = label[other] = min(label[place], label[other])
                    if label == before:
                        break
                for one in places:
                    self.assertEqual(label[one], found[number[one]][0])

    def test_entries_of_an_orbit_are_equal(self):
        for field in FIELDS + GREAT[:3]:
            for order in field.orders:
                table = class_table(field, order)
                for orbit in orbits(field, order):
                    self.assertEqual(len({table[row][column] for row, column in orbit}), 1)


class Turned(unittest.TestCase):
    def test_by_another_generator(self):
        for field in FIELDS + GREAT[:2]:
            for unit in plain_classes.units(field.size - 1):
                generator = field.power_of(unit)
                for order in field.orders:
                    told = plain_classes.table_of(field, order, generator)
                    self.assertEqual(turned_table(class_table(field, order), unit), told)
                    self.assertEqual(turned_table(class_table(field, order), unit - 5 * order), told)

    def test_any_table(self):
        table = ((1, -2, 3, 4), (5, 6, 7, 8), (9, 10, 11, 12), (13, 14, 15, 10 ** 60 - 1))
        self.assertEqual(turned_table(table, 1), table)
        self.assertEqual(turned_table(table, 3), turned_table(table, -1))
        self.assertEqual(turned_table(table, -1), ((1, 4, 3, -2), (13, 10 ** 60 - 1, 15, 14), (9, 12, 11, 10), (5, 8, 7, 6)))
        self.assertEqual(turned_table(turned_table(table, 3), 3), table)
        self.assertEqual(turned_table(((7,),), 0), ((7,),))
        self.assertEqual(turned_table(((7,),), 10 ** 60 - 1), ((7,),))
        wide = tuple(tuple(range(row, row + 24)) for row in range(24))
        self.assertEqual(turned_table(wide, 5), tuple(tuple(wide[5 * i % 24][5 * j % 24] for j in range(24))
                                                      for i in range(24)))

    def test_turning_units(self):
        for field in FIELDS + GREAT[:3]:
            for order in field.orders:
                table = class_table(field, order)
                for unit in plain_classes.units(order):
                    turned = turned_table(table, unit)
                    least = [
                        low for low in plain_classes.units(order)
                        if all(turned[i][j] == table[low * i % order][low * j % order]
                               for i in range(order) for j in range(order))
                    ][0]
                    self.assertEqual(turning_unit(field, order, turned), least)
                    self.assertIs(is_table_of(field, order, turned), turned == table)

    def test_any_value_is_judged(self):
        for field, order in ((Field(2), 1), (Field(3), 2), (Field(7), 3)):
            table = class_table(field, order)
            for value in all_kinds() + [table, list(table), tuple(map(list, table)), (table,), table + table]:
                told = value == table and type(value) is tuple and all(type(row) is tuple for row in value)
                self.assertIs(is_table_of(field, order, value), told)
                self.assertEqual(turning_unit(field, order, value), 1 if told else None)

    def test_true_is_no_integer(self):
        seven, table = Field(7), class_table(Field(7), 3)
        for row in range(3):
            for column in range(3):
                other = changed(table, row, column, bool(table[row][column]))
                self.assertEqual(other, table)
                self.assertIs(is_table_of(seven, 3, other), False)
                self.assertIsNone(turning_unit(seven, 3, other))
        self.assertIs(is_table_of(Field(2), 1, ((False,),)), False)
        self.assertIs(is_table_of(Field(3), 1, ((True,),)), False)


class Lesser(unittest.TestCase):
    def test_tables_of_divisors(self):
        for field in FIELDS + GREAT:
            for order in field.orders:
                table = class_table(field, order)
                for divisor in field.orders:
                    if order % divisor == 0:
                        self.assertEqual(lesser_table(table, divisor), class_table(field, divisor))

    def test_any_table(self):
        table = tuple(tuple(10 * row + column for column in range(4)) for row in range(4))
        self.assertEqual(lesser_table(table, 4), table)
        self.assertEqual(lesser_table(table, 2), ((44, 48), (84, 88)))
        self.assertEqual(lesser_table(table, 1), ((264,),))
        self.assertEqual(lesser_table(((10 ** 60 - 1,) * 2,) * 2, 1), ((4 * 10 ** 60 - 4,),))


class Pairs(unittest.TestCase):
    def test_by_counting(self):
        for field in FIELDS + GREAT[:3]:
            for order in field.orders:
                logs = plain_classes.logs_of(field)
                counts = {}
                for one in range(1, field.size):
                    other = field.minus(1, one)
                    if other != 0:
                        pair = (logs[one] % order, logs[other] % order)
                        counts[pair] = counts.get(pair, 0) + 1
                for one in range(order):
                    for other in range(order):
                        self.assertEqual(pairs_adding(field, order, one, other), counts.get((one, other), 0))


class NotTrue(unittest.TestCase):
    def test_sums_and_rules_do_not_tell_the_table(self):
        table = ((1, 0, 0), (0, 0, 2), (0, 2, 0))
        self.assertIs(sums_hold(Field(7), 3, table), True)
        self.assertIs(rules_hold(Field(7), 3, table), True)
        self.assertIsNone(turning_unit(Field(7), 3, table))

    def test_a_table_can_be_like_the_turned_one(self):
        table = class_table(Field(3, 2), 4)
        self.assertEqual(turned_table(table, 3), table)

    def test_generators_can_make_unlike_tables(self):
        table = class_table(Field(7), 3)
        self.assertNotEqual(turned_table(table, 2), table)

    def test_a_table_need_not_be_symmetric(self):
        table = class_table(Field(13), 4)
        self.assertNotEqual(table[0][2], table[2][0])


if __name__ == "__main__":
    unittest.main()
