"""Places: [13.1] to [13.7], held against factors found by trying, powers and norms."""

import itertools
import math
import random
import unittest

from carryturns.base.residues import is_irreducible_row, row_times
from carryturns.errors import TooMany
from carryturns.field.fields import Field
from carryturns.place.places import Place, count_places, left_element, place_of_field, places, turning_to
from carryturns.turn.turns import Turn, cyclotomic
from tests import plain_classes, plain_places, plain_rows, plain_turns
from tests.support import all_kinds, raised_by

# Orders and primes with few enough rows to try.
TRIED = [
    (order, prime) for order in range(1, 61) for prime in (2, 3, 5, 7, 11, 13, 31, 61)
    if order % prime and prime ** plain_places.degree_of(order, prime) <= 300
]
SOME = TRIED[::7] + [(1, 2), (2, 3), (3, 7), (4, 3), (5, 11), (12, 13), (15, 2), (15, 31), (24, 5), (30, 31), (60, 61)]
GREAT = [(59, 2), (53, 107), (60, 509), (58, 349), (49, 2), (37, 149), (47, 3), (60, 7), (55, 331)]
FIELDS = plain_classes.small_fields() + [Field(3, 3), Field(2, 6), Field(7, 2), Field(73), Field(2, 9), Field(13, 2)]


def drawn(order, chance, most=9):
    """Any turn number."""
    return Turn(order, tuple(chance.randint(-most, most) for _ in plain_turns.units(order)))


def units(order):
    """The units modulo an order, from 1 on."""
    return [unit for unit in range(1, order + 1) if math.gcd(unit, order) == 1]


class ThePlaces(unittest.TestCase):
    def test_by_trying(self):
        for order, prime in TRIED:
            found = places(order, prime)
            self.assertEqual([place.poly for place in found], plain_places.factors(order, prime))
            for place in found:
                self.assertEqual((place.order, place.prime), (order, prime))
                self.assertEqual(place.size, prime ** place.degree)

    def test_great_ones(self):
        for order, prime in GREAT:
            found = places(order, prime)
            polys = [place.poly for place in found]
            self.assertEqual(polys, sorted(polys))
            product = (1,)
            for poly in polys:
                self.assertEqual(len(poly) - 1, plain_places.degree_of(order, prime))
                self.assertTrue(is_irreducible_row(prime, poly))
                product = row_times(prime, product, poly)
            self.assertEqual(product, tuple(entry % prime for entry in cyclotomic(order)))

    def test_numbers_of_places(self):
        for order, prime in TRIED + GREAT:
            degree = plain_places.degree_of(order, prime)
            self.assertEqual(count_places(order, prime), len(plain_turns.units(order)) // degree)
            self.assertEqual(count_places(order, prime), len(places(order, prime)))

    def test_what_is_a_polynomial_of_a_place(self):
        for order, prime in ((1, 2), (1, 5), (2, 3), (3, 5), (3, 7), (5, 2), (7, 2), (8, 3), (12, 5)):
            told = plain_places.factors(order, prime)
            for length in range(4):
                for poly in itertools.product(range(prime), repeat=length):
                    self.assertIs(raised_by(Place, order, prime, poly) is None, poly in told)

    def test_equal_ones_and_texts(self):
        found = [place for order, prime in ((3, 7), (3, 13), (6, 7), (4, 3), (5, 11)) for place in places(order, prime)]
        for one, other in itertools.product(found, repeat=2):
            same = (one.order, one.prime, one.poly) == (other.order, other.prime, other.poly)
            self.assertEqual((one == other, one != other), (same, not same))
        self.assertEqual(str(Place(4, 3, (1, 0, 1))), "place (1, 0, 1) over 3 order 4")
        self.assertEqual(str(Place(1, 2, (1, 1))), "place (1, 1) over 2 order 1")
        for place in found:
            self.assertEqual(Place(place.order, place.prime, place.poly), place)
            for value in all_kinds():
                if not isinstance(value, Place):
                    self.assertFalse(place == value)


class WhatIsLeft(unittest.TestCase):
    def test_rests(self):
        chance = random.Random(131)
        for order, prime in SOME:
            for place in places(order, prime):
                one, other = drawn(order, chance), drawn(order, chance)
                self.assertEqual(place.leaves(one), self.plain(place, one))
                rows = place.leaves(one), place.leaves(other)
                added = tuple((first + second) % prime for first, second in zip(*rows))
                self.assertEqual(place.leaves(one.plus(other)), added)
                product = plain_rows.times(prime, plain_rows.trim(rows[0]), plain_rows.trim(rows[1]))
                row = plain_rows.rest(prime, product, place.poly)
                self.assertEqual(plain_rows.trim(place.leaves(one.times(other))), row)

    def plain(self, place, turn):
        row = plain_rows.rest(place.prime, plain_rows.trim([entry % place.prime for entry in turn.entries]), place.poly)
        return row + (0,) * (place.degree - len(row))

    def test_what_lies_in_a_place(self):
        chance = random.Random(132)
        for order, prime in SOME:
            for place in places(order, prime):
                for _ in range(4):
                    turn = drawn(order, chance)
                    self.assertEqual(turn in place, not any(place.leaves(turn)))
                    self.assertIn(turn.scaled(prime), place)
                    self.assertEqual(any(turn in other for other in places(order, prime)), turn.norm() % prime == 0)
                for value in all_kinds():
                    if not isinstance(value, Turn) or value.order != order:
                        self.assertFalse(value in place)

    def test_powers_of_z_leave_different_tuples(self):
        for order, prime in SOME:
            for place in places(order, prime):
                rests = [place.leaves(Turn.power(order, many)) for many in range(order)]
                self.assertEqual(len(set(rests)), order)


class Symbols(unittest.TestCase):
    def test_by_powers(self):
        chance = random.Random(133)
        for order, prime in SOME:
            for place in places(order, prime)[:3]:
                for turn in [drawn(order, chance) for _ in range(4)] + [Turn.whole(order, 0), Turn.power(order, 1)]:
                    told = plain_places.symbol(order, prime, place.poly, turn.entries)
                    self.assertEqual(place.symbol(turn), told)
                    self.assertEqual(told is None, turn in place)

    def test_great_ones(self):
        chance = random.Random(139)
        for order, prime in ((13, 2), (35, 2), (45, 2), (60, 509), (53, 107), (37, 149), (60, 7), (55, 331), (45, 7)):
            place = places(order, prime)[-1]
            self.assertTrue(place.degree <= 12)
            turn = drawn(order, chance)
            told = plain_places.symbol(order, prime, place.poly, turn.entries)
            self.assertEqual(place.symbol(turn), told)

    def test_products_and_z(self):
        chance = random.Random(134)
        for order, prime in SOME:
            for place in places(order, prime)[:3]:
                one, other = drawn(order, chance), drawn(order, chance)
                if one not in place and other not in place:
                    both = (place.symbol(one) + place.symbol(other)) % order
                    self.assertEqual(place.symbol(one.times(other)), both)
                self.assertEqual(place.symbol(Turn.power(order, 1)), (place.size - 1) // order % order)

    def test_powers_have_the_symbol_0(self):
        for order, prime in ((3, 7), (4, 3), (5, 11), (4, 13), (7, 2), (6, 5), (1, 3), (2, 7)):
            width = len(plain_turns.units(order))
            for place in places(order, prime):
                turns = [Turn(order, entries) for entries in itertools.product(range(prime), repeat=place.degree) for entries in [entries + (0,) * (width - place.degree)]]
                powers = {place.leaves(turn.raised(order)) for turn in turns if turn not in place}
                for turn in turns:
                    if turn not in place:
                        self.assertEqual(place.symbol(turn) == 0, place.leaves(turn) in powers)


class Turning(unittest.TestCase):
    def test_members_are_turned(self):
        chance = random.Random(135)
        for order, prime in SOME:
            for place in places(order, prime)[:4]:
                for unit in units(order)[::1 + order // 12] + [order - 1]:
                    turned = place.turned_by(unit)
                    self.assertEqual(place.turned_by(unit - 3 * order), turned)
                    for turn in [drawn(order, chance, 3) for _ in range(3)] + [self.member(place)]:
                        self.assertEqual(turn in place, turn.turned(unit) in turned)
                        symbol = place.symbol(turn)
                        told = None if symbol is None else unit * symbol % order
                        self.assertEqual(turned.symbol(turn.turned(unit)), told)

    def member(self, place):
        """The turn number of the polynomial of a place."""
        total = Turn.whole(place.order, 0)
        for at, entry in enumerate(place.poly):
            total = total.plus(Turn.power(place.order, at).scaled(entry))
        return total

    def test_each_place_is_led_to_each_other_one(self):
        for order, prime in SOME + [(60, 509), (45, 7)]:
            found = places(order, prime)
            for place in found[:4]:
                self.assertEqual(place.turned_by(prime), place)
                turned = [place.turned_by(unit) for unit in units(order)]
                for other in found:
                    self.assertEqual(turning_to(place, other), units(order)[turned.index(other)])

    def test_orders_1_and_2(self):
        self.assertEqual([turning_to(*places(order, 7) * 2) for order in (1, 2)], [1, 1])


class PlacesOfFields(unittest.TestCase):
    def test_roots(self):
        for field in FIELDS:
            for order in field.orders:
                place = place_of_field(field, order)
                root = field.power_of((field.size - 1) // order)
                total = 0
                for at, entry in enumerate(place.poly):
                    total = field.plus(total, field.times(entry, field.raised(root, at)))
                self.assertEqual((total, place.order, place.prime), (0, order, field.prime))
                self.assertIn(place, places(order, field.prime))

    def test_left_elements(self):
        chance = random.Random(136)
        for field in FIELDS:
            for order in field.orders:
                place = place_of_field(field, order)
                for turn in [drawn(order, chance) for _ in range(6)]:
                    root, total = field.power_of((field.size - 1) // order), 0
                    for at, entry in enumerate(turn.entries):
                        total = field.plus(total, field.times(entry % field.prime, field.raised(root, at)))
                    self.assertEqual(left_element(field, turn), total)
                    self.assertEqual(total == 0, turn in place)
                    if total != 0 and place.degree == field.degree:
                        self.assertEqual(place.symbol(turn), plain_classes.logs_of(field)[total] % order)


class HowManyTimes(unittest.TestCase):
    def test_by_lifted_polynomials(self):
        chance = random.Random(137)
        some = 0
        for order, prime in ((1, 2), (2, 3), (3, 7), (3, 2), (4, 5), (4, 3), (5, 11), (7, 2), (8, 3), (12, 13), (15, 2)):
            for place in places(order, prime):
                for _ in range(5):
                    one, other = drawn(order, chance, 3), drawn(order, chance, 3)
                    turn = one.raised(2).times(other).scaled(prime ** chance.randrange(3))
                    if not turn.is_zero:
                        told = plain_places.times_of(order, prime, place.poly, turn.entries)
                        self.assertEqual(place.times_of(turn), told)
                        some += told > 1
        self.assertTrue(some > 20)

    def test_norms_and_products(self):
        chance = random.Random(138)
        for order, prime in SOME:
            found = places(order, prime)
            for _ in range(3):
                one, other = drawn(order, chance, 4), drawn(order, chance, 4).raised(3)
                both = one.times(other).scaled(prime)
                if not both.is_zero:
                    for place in found:
                        self.assertEqual(place.times_of(both), place.times_of(one) + place.times_of(other) + 1)
                        self.assertEqual(place.times_of(one) == 0, one not in place)
                    norm, many = one.norm(), 0
                    while norm % prime == 0:
                        norm, many = norm // prime, many + 1
                    self.assertEqual(sum(place.degree * place.times_of(one) for place in found), many)

    def test_many_times(self):
        for order, prime in ((3, 7), (5, 11), (15, 2), (4, 13), (60, 61)):
            first, *others = places(order, prime)
            turn = Turning.member(None, first)
            once = first.times_of(turn)
            self.assertTrue(once >= 1)
            self.assertEqual(first.times_of(turn.raised(20)), 20 * once)
            for other in others:
                self.assertEqual(other.times_of(turn.raised(20)), 20 * other.times_of(turn))

    def test_limits(self):
        place = places(13, 2)[0]
        self.assertEqual((place.degree, place.times_of(Turn.whole(13, 12))), (12, 2))
        self.assertIs(type(raised_by(places(17, 3)[0].times_of, Turn.whole(17, 3))), TooMany)

    def test_what_is_not_true(self):
        one, other = places(3, 7)
        self.assertEqual((one.symbol(Turn(3, (2, 0))), other.symbol(Turn(3, (2, 0)))), (1, 2))
        some = Turn(3, (3, 1))
        self.assertEqual((some.norm(), some in one, some in other), (7, True, False))


if __name__ == "__main__":
    unittest.main()
