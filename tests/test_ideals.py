"""Ideals: [0.17], [0.18] and [14.1] to [14.7], held against an elimination of their own, members, carries and sums J."""

import itertools
import math
import random
import unittest

from carryturns.carry.carries import carry_row
from carryturns.errors import InvalidIdeal
from carryturns.field.fields import Field
from carryturns.ideal.ideals import (
    Ideal, ideal_of, ideal_of_place, is_maker, is_only_total, jacobi_ideal, places_in, whole_ideal,
)
from carryturns.place.places import place_of_field, places
from carryturns.total.totals import jacobi
from carryturns.turn.turns import Turn
from tests import plain_classes, plain_ideals, plain_places, plain_turns
from tests.support import all_kinds, raised_by

ORDERS = (1, 2, 3, 4, 5, 6, 7, 8, 9, 10, 12, 14, 15, 16, 18, 20, 24, 30)
FIELDS = plain_classes.small_fields() + [Field(3, 3), Field(31), Field(7, 2), Field(2, 6), Field(73), Field(3, 4)]


def drawn(order, chance, most=5):
    """Any turn number other than 0."""
    turn = Turn(order, tuple(chance.randint(-most, most) for _ in plain_turns.units(order)))
    return Turn.whole(order, 3) if turn.is_zero else turn


def drawn_ideal(order, chance):
    """Any ideal: of a turn number, of two, or with a place."""
    if chance.randrange(3) == 0:
        return ideal_of(order, (drawn(order, chance),))
    prime = chance.choice([prime for prime in (2, 3, 5, 7, 11, 13) if order % prime])
    made = ideal_of_place(chance.choice(places(order, prime)))
    return made.multiplied(ideal_of(order, (drawn(order, chance), drawn(order, chance, 20))))


def units(order):
    """The units modulo an order, from 1 on."""
    return [unit for unit in range(1, order + 1) if math.gcd(unit, order) == 1]


def entries_in(turns):
    """The list of the entries of turn numbers."""
    return [turn.entries for turn in turns]


class LeastRows(unittest.TestCase):
    def setUp(self):
        self.chance = random.Random(141)

    def test_ideals_of_turn_numbers(self):
        for order in ORDERS:
            for many in (1, 2, 3, 8):
                turns = tuple(drawn(order, self.chance, 30) for _ in range(many))
                made = ideal_of(order, turns)
                self.assertEqual(made.rows, plain_ideals.rows_of(order, entries_in(turns)))
                self.assertEqual((made.order, len(made)), (order, len(units(order))))
                self.assertEqual(ideal_of(order, (turns + (Turn.whole(order, 0),))[:8]), made)
                if many == 1:
                    self.assertEqual(made.size, abs(turns[0].norm()))

    def test_diagonals_and_sizes(self):
        for order in ORDERS:
            made = drawn_ideal(order, self.chance)
            size = 1
            for at, row in enumerate(made):
                self.assertTrue(row[at] > 0 and not any(row[:at]))
                self.assertTrue(all(0 <= ahead[at] < row[at] for ahead in made.rows[:at]))
                size *= row[at]
            self.assertEqual(made.size, size)
            self.assertEqual(list(made), list(made.rows))
            self.assertEqual(Ideal(order, made.rows), made)

    def test_what_is_an_ideal(self):
        for order in (3, 4, 6):
            for one, low, two in itertools.product(range(-1, 6), range(-1, 6), range(-1, 6)):
                rows = ((one, low), (0, two))
                told = one > 0 and two > 0 and 0 <= low < two and plain_ideals.is_ideal(order, rows)
                self.assertIs(raised_by(Ideal, order, rows) is None, told)
        for order in (5, 8):
            for low in itertools.product((0, 1, 2, 3), repeat=3):
                rows = ((1, 0, 0, low[0]), (0, 1, 0, low[1]), (0, 0, 1, low[2]), (0, 0, 0, 11 if order == 5 else 5))
                self.assertIs(raised_by(Ideal, order, rows) is None, plain_ideals.is_ideal(order, rows))

    def test_rows_that_are_no_least_ones(self):
        made = Ideal(4, ((1, 2), (0, 5)))
        for rows in (((1, 7), (0, 5)), ((1, -3), (0, 5)), ((0, 5), (1, 2)), ((2, 4), (0, 5)), ((-1, 3), (0, 5))):
            self.assertIs(type(raised_by(Ideal, 4, rows)), InvalidIdeal)
        self.assertEqual(made.size, 5)

    def test_members(self):
        for order in ORDERS:
            made = drawn_ideal(order, self.chance)
            for _ in range(5):
                turn = drawn(order, self.chance, 99)
                self.assertEqual(turn in made, plain_ideals.is_member(made.rows, turn.entries))
                inside = Turn.whole(order, 0)
                for row in made:
                    inside = inside.plus(Turn(order, row).times(drawn(order, self.chance)))
                self.assertIn(inside, made)
                self.assertEqual(inside.plus(turn) in made, turn in made)
            self.assertIn(Turn.whole(order, 0), made)
            self.assertIn(Turn.whole(order, made.size), made)
            for value in all_kinds():
                if not isinstance(value, Turn) or value.order != order:
                    self.assertFalse(value in made)

    def test_whole_ideals(self):
        for order in ORDERS:
            whole = whole_ideal(order)
            width = len(whole)
            self.assertEqual(whole.rows, tuple(tuple(int(at == to) for to in range(width)) for at in range(width)))
            self.assertEqual((whole.size, whole == ideal_of(order, (Turn.power(order, 5),))), (1, True))
            self.assertIn(drawn(order, self.chance), whole)

    def test_equal_ones_and_texts(self):
        made = [whole_ideal(3), whole_ideal(4), whole_ideal(6), Ideal(4, ((1, 2), (0, 5))), Ideal(4, ((1, 3), (0, 5)))]
        for one, other in itertools.product(made, repeat=2):
            same = (one.order, one.rows) == (other.order, other.rows)
            self.assertEqual((one == other, one != other), (same, not same))
        self.assertEqual([str(made[0]), str(made[3]), str(whole_ideal(1))], ["1 0/0 1 of order 3", "1 2/0 5 of order 4", "1 of order 1"])
        for value in all_kinds():
            if not isinstance(value, Ideal):
                self.assertFalse(made[3] == value)


class Reckoning(unittest.TestCase):
    def setUp(self):
        self.chance = random.Random(142)

    def test_products(self):
        for order in ORDERS:
            one, other, last = [drawn_ideal(order, self.chance) for _ in range(3)]
            rows = [plain_turns.product(order, first, second) for first in one for second in other]
            made = one.multiplied(other)
            self.assertEqual(made.rows, plain_ideals.least_rows(len(one), rows))
            self.assertEqual((made.size, other.multiplied(one)), (one.size * other.size, made))
            self.assertEqual(made.multiplied(last), one.multiplied(other.multiplied(last)))
            self.assertEqual(one.multiplied(whole_ideal(order)), one)

    def test_joined_and_shared(self):
        for order in ORDERS:
            for _ in range(3):
                one, other = drawn_ideal(order, self.chance), drawn_ideal(order, self.chance)
                joined, shared = one.joined(other), one.shared(other)
                self.assertEqual(joined.rows, plain_ideals.least_rows(len(one), one.rows + other.rows))
                self.assertEqual(joined.multiplied(shared), one.multiplied(other))
                for row in shared:
                    self.assertTrue(Turn(order, row) in one and Turn(order, row) in other)
                for row in one.rows + other.rows:
                    turn = Turn(order, row).times(drawn(order, self.chance, 2))
                    self.assertEqual(turn in shared, turn in one and turn in other)
                self.assertEqual((joined, shared), (other.joined(one), other.shared(one)))
                self.assertTrue(one.is_within(joined) and shared.is_within(other))

    def test_within_and_parted(self):
        for order in ORDERS:
            for _ in range(3):
                one, other = drawn_ideal(order, self.chance), drawn_ideal(order, self.chance)
                both = one.multiplied(other)
                self.assertTrue(both.is_within(one))
                self.assertEqual((both.parted(one), both.parted(other)), (other, one))
                told = all(plain_ideals.is_member(other.rows, row) for row in one)
                self.assertEqual(one.is_within(other), told)
                part = one.parted(other)
                self.assertEqual(part is None, not told)
                if told:
                    self.assertEqual(part.multiplied(other), one)
                self.assertEqual((one.parted(one), one.parted(whole_ideal(order))), (whole_ideal(order), one))

    def test_powers(self):
        for order in (1, 2, 3, 4, 5, 8, 12, 15):
            made, power = drawn_ideal(order, self.chance), whole_ideal(order)
            for many in range(21 if order < 5 else 6):
                self.assertEqual(made.lifted_by(many), power)
                power = power.multiplied(made)

    def test_turned_ones(self):
        for order in ORDERS:
            made, product = drawn_ideal(order, self.chance), whole_ideal(order)
            for unit in units(order):
                turned = made.moved(unit)
                rows = [plain_turns.turned(order, row, unit) for row in made]
                self.assertEqual(turned.rows, plain_ideals.least_rows(len(made), rows))
                self.assertEqual((turned.size, made.moved(unit - 7 * order)), (made.size, turned))
                turn = drawn(order, self.chance)
                self.assertEqual(turn in made, turn.turned(unit) in turned)
                product = product.multiplied(turned)
            self.assertEqual(product, ideal_of(order, (Turn.whole(order, made.size),)))

    def test_makers(self):
        for order in ORDERS:
            turn = drawn(order, self.chance)
            made = ideal_of(order, (turn,))
            root = Turn.power(order, 1)
            for value, told in (
                (turn, True), (turn.times(root).opposite(), True), (turn.scaled(2), False), (turn.scaled(0), False),
                (turn.times(drawn(order, self.chance, 1).raised(2).scaled(3)), False),
            ):
                self.assertEqual(is_maker(made, value), told)
            for value in all_kinds():
                told = isinstance(value, Turn) and value.order == order and not value.is_zero
                told = told and plain_ideals.rows_of(order, [value.entries]) == made.rows
                self.assertEqual(is_maker(made, value), told)


class IdealsOfPlaces(unittest.TestCase):
    def setUp(self):
        self.chance = random.Random(143)

    def test_members_lie_in_the_place(self):
        for order in ORDERS:
            for prime in (2, 3, 5, 7, 13, 31, 509):
                if order % prime:
                    product = whole_ideal(order)
                    for place in places(order, prime):
                        made = ideal_of_place(place)
                        self.assertEqual(made.size, place.size)
                        for row in made:
                            self.assertIn(Turn(order, row), place)
                        for turn in (drawn(order, self.chance), drawn(order, self.chance, 1)):
                            self.assertEqual(turn in made, turn in place)
                        product = product.multiplied(made)
                    self.assertEqual(product, ideal_of(order, (Turn.whole(order, prime),)))

    def test_places_in_ideals(self):
        for order in ORDERS:
            for _ in range(4):
                turn = drawn(order, self.chance, 3)
                made = ideal_of(order, (turn,))
                if math.gcd(made.size, order) == 1 and raised_by(places_in, made) is None:
                    told = places_in(made)
                    keys = [(place.prime, place.poly) for place, _ in told]
                    self.assertEqual(keys, sorted(set(keys)))
                    product = whole_ideal(order)
                    for place, many in told:
                        self.assertTrue(many >= 1)
                        self.assertEqual(place.times_of(turn), many)
                        if place.size ** many < 300:
                            self.assertEqual(plain_places.times_of(order, place.prime, place.poly, turn.entries), many)
                        product = product.multiplied(ideal_of_place(place).lifted_by(many))
                    self.assertEqual(product, made)

    def test_made_products(self):
        for order in ORDERS:
            prime = [prime for prime in (11, 5, 7, 13) if order % prime][0]
            told = [(place, 1 + at % 2) for at, place in enumerate(places(order, prime)) if place.size < 200][:3]
            product = whole_ideal(order)
            for place, many in told:
                product = product.multiplied(ideal_of_place(place).lifted_by(many))
            self.assertEqual(places_in(product), tuple(told))
        self.assertEqual(places_in(whole_ideal(30)), ())


class IdealsOfSumsJ(unittest.TestCase):
    def proper(self, order):
        return [(a, b) for a in range(1, order) for b in range(1, order) if (a + b) % order]

    def test_by_the_sums_themselves(self):
        for field in FIELDS:
            for order in [order for order in field.orders if order in ORDERS]:
                for a, b in self.proper(order)[::1 + order // 3]:
                    made = jacobi_ideal(field, order, a, b)
                    self.assertEqual(made, ideal_of(order, (jacobi(field, order, (a, b)),)))
                    self.assertTrue(is_maker(made, jacobi(field, order, (a, b))))

    def test_by_places_and_carries(self):
        for field in FIELDS:
            for order in [order for order in field.orders if order in ORDERS and field.size ** len(units(order)) <= 10 ** 24]:
                for a, b in self.proper(order)[::1 + order // 2]:
                    row, place = carry_row(field, order, a, b), place_of_field(field, order)
                    told = {place.turned_by(pow(unit, -1, order)).poly: row[unit] for unit in row}
                    found = {place.poly: many for place, many in places_in(jacobi_ideal(field, order, a, b))}
                    self.assertEqual(found, {poly: many for poly, many in told.items() if many})

    def test_only_totals(self):
        for field in FIELDS:
            for order in [order for order in field.orders if order in (3, 5, 7)]:
                for a, b in self.proper(order):
                    total = jacobi(field, order, (a, b))
                    near = [total.times(Turn.power(order, many)).scaled(sign) for many in range(order) for sign in (1, -1)]
                    self.assertEqual([is_only_total(field, order, a, b, turn) for turn in near], [True] + [False] * (2 * order - 1))
                    for unit in units(order):
                        turned = total.turned(unit)
                        self.assertEqual(is_only_total(field, order, a, b, turned), turned == total)
                    for value in all_kinds():
                        told = isinstance(value, Turn) and value == total
                        self.assertEqual(is_only_total(field, order, a, b, value), told)

    def test_each_property_is_asked_for(self):
        field = Field(7)
        total = jacobi(field, 3, (1, 1))
        self.assertFalse(is_only_total(field, 3, 1, 1, total.scaled(4)))
        self.assertFalse(is_only_total(field, 3, 1, 1, total.mirrored()))
        self.assertFalse(is_only_total(field, 3, 1, 1, total.opposite()))
        self.assertTrue(is_only_total(Field(5, 2), 3, 1, 1, Turn.whole(3, 5)))

    def test_what_is_not_true(self):
        one = ideal_of_place(places(5, 11)[0])
        squares = one.multiplied(one), one.multiplied(one.moved(2))
        self.assertEqual(squares[0].size, squares[1].size)
        self.assertNotIn(squares[0], [squares[1].moved(unit) for unit in units(5)])
        ramified = ideal_of(3, (Turn(3, (1, -1)),))
        self.assertEqual([ramified.moved(unit) for unit in units(3)], [ramified, ramified])
        self.assertNotIn(ramified, [ideal_of(3, (Turn.whole(3, number),)) for number in (1, 2, 3)])


if __name__ == "__main__":
    unittest.main()
