"""Gauss sums: [0.19] and [11.1] to [11.7], held against sums over all elements and tables of powers."""

import itertools
import math
import random
import unittest

from carryturns.above.towers import Tower
from carryturns.character.characters import Character
from carryturns.field.fields import Field
from carryturns.total.totals import jacobi
from carryturns.turn.turns import Turn
from carryturns.wave.waves import (
    Wave, gauss, gauss_above, gauss_at, gauss_power, gauss_product, jacobi_by_gauss, product_sides,
)
from tests import plain_classes, plain_turns, plain_waves
from tests.support import all_kinds

FIELDS = plain_classes.small_fields()
GREATER = [Field(3, 3), Field(2, 5), Field(7, 2), Field(2, 6), Field(3, 4), Field(19, 2), Field(2, 9), Field(17, 2)]
PAIRS = [(order, prime) for order in (1, 2, 3, 4, 5, 9, 11, 12) for prime in (2, 3, 7, 19) if order % prime]


def orders_of(field):
    """The orders of a field for which there are Gauss sums here."""
    return [order for order in field.orders if order <= 12]


def drawn(order, prime, chance, most=9):
    """Any wave."""
    width = len(plain_turns.units(order))
    entries = [Turn(order, tuple(chance.randint(-most, most) for _ in range(width))) for _ in range(prime - 1)]
    return Wave(order, prime, tuple(entries))


def told(wave):
    """The entries of all entries."""
    return tuple(turn.entries for turn in wave.entries)


class Reckoning(unittest.TestCase):
    def setUp(self):
        self.chance = random.Random(11)

    def test_sums_and_products(self):
        for order, prime in PAIRS:
            for _ in range(3):
                one, other = drawn(order, prime, self.chance), drawn(order, prime, self.chance)
                table = plain_waves.product(order, prime, plain_waves.table_of(one), plain_waves.table_of(other))
                self.assertEqual(told(one.times(other)), plain_waves.entries_of(order, prime, table))
                self.assertEqual(one.times(other), other.times(one))
                both = [first.plus(second) for first, second in zip(one.entries, other.entries)]
                self.assertEqual(one.plus(other), Wave(order, prime, tuple(both)))
                self.assertEqual(one.plus(other).minus(other), one)
                self.assertEqual(one.minus(one).plus(one.opposite()), one.scaled(-1))

    def test_products_of_three(self):
        for order, prime in PAIRS:
            one, other, last = [drawn(order, prime, self.chance) for _ in range(3)]
            self.assertEqual(one.times(other).times(last), one.times(other.times(last)))
            self.assertEqual(one.times(other.plus(last)), one.times(other).plus(one.times(last)))

    def test_long_entries(self):
        one = drawn(5, 7, self.chance, 10 ** 60 - 1)
        table = plain_waves.product(5, 7, plain_waves.table_of(one), plain_waves.table_of(one))
        self.assertEqual(told(one.raised(2)), plain_waves.entries_of(5, 7, table))

    def test_powers(self):
        for order, prime in PAIRS:
            one = drawn(order, prime, self.chance, 2)
            power = Wave(order, prime, (Turn.whole(order, 1),) + (Turn.whole(order, 0),) * (prime - 2))
            for many in range(25 if prime < 9 else 6):
                self.assertEqual(one.raised(many), power)
                power = power.times(one)
        self.assertEqual(drawn(12, 19, self.chance).raised(0).as_turn(), Turn.whole(12, 1))

    def test_scaled(self):
        for order, prime in PAIRS:
            one, factor = drawn(order, prime, self.chance), drawn(order, prime, self.chance).entries[-1]
            zeros = (Turn.whole(order, 0),) * (prime - 2)
            self.assertEqual(one.scaled(factor), one.times(Wave(order, prime, (factor,) + zeros)))
            self.assertEqual(one.scaled(-7), one.scaled(Turn.whole(order, -7)))

    def test_moved_and_turned(self):
        for order, prime in PAIRS:
            one, other = drawn(order, prime, self.chance), drawn(order, prime, self.chance)
            table = plain_waves.table_of(one)
            for number in range(1, prime):
                moved = [table[at * pow(number, -1, prime) % prime] for at in range(prime)]
                self.assertEqual(told(one.moved(number)), plain_waves.entries_of(order, prime, moved))
                self.assertEqual(one.times(other).moved(number), one.moved(number).times(other.moved(number)))
            for unit in plain_turns.units(order):
                entries = tuple(plain_turns.turned(order, turn.entries, unit) for turn in one.entries)
                self.assertEqual(told(one.turned(unit)), entries)
                self.assertEqual(one.turned(unit - 5 * order), one.turned(unit))
            self.assertEqual(one.mirrored(), one.moved(prime - 1).turned(-1))
            self.assertEqual(one.mirrored().mirrored(), one)

    def test_the_root(self):
        for order, prime in PAIRS:
            zero, one = Turn.whole(order, 0), Turn.whole(order, 1)
            entries = (zero, one) + (zero,) * (prime - 3) if prime > 2 else (one.opposite(),)
            root = Wave(order, prime, entries)
            whole, power = root.raised(0), root.raised(0)
            for number in range(1, prime + 1):
                power = power.times(root)
                self.assertEqual(power == whole, number == prime)
                if number < prime:
                    self.assertEqual(root.moved(number), power)

    def test_what_is_a_turn_number(self):
        for order, prime in PAIRS:
            one = drawn(order, prime, self.chance)
            zeros = (Turn.whole(order, 0),) * (prime - 2)
            turn = Wave(order, prime, one.entries[:1] + zeros)
            self.assertTrue(turn.is_turn)
            self.assertEqual(turn.as_turn(), one.entries[0])
            self.assertEqual(one.is_turn, prime == 2)

    def test_equal_ones_and_texts(self):
        waves = [gauss(field, order, index) for field in FIELDS[:8] for order in orders_of(field) for index in range(order)]
        for one, other in itertools.product(waves[::3], repeat=2):
            same = (one.order, one.prime, told(one)) == (other.order, other.prime, told(other))
            self.assertEqual((one == other, one != other), (same, not same))
        for wave in waves:
            self.assertEqual(wave, Wave(wave.order, wave.prime, wave.entries))
            self.assertEqual(str(wave), f"wave of order {wave.order} over {wave.prime}")
        for value in all_kinds():
            if not isinstance(value, Wave):
                self.assertFalse(waves[0] == value)


class GaussSums(unittest.TestCase):
    def test_over_all_elements(self):
        for field in FIELDS:
            if field.prime <= 19:
                for order in orders_of(field):
                    for index in range(order):
                        wave = gauss(field, order, index)
                        table = plain_waves.gauss_table(field, order, index)
                        self.assertEqual((wave.order, wave.prime), (order, field.prime))
                        self.assertEqual(told(wave), plain_waves.entries_of(order, field.prime, table))

    def test_over_greater_fields(self):
        for field in GREATER:
            for order in orders_of(field)[::2] + orders_of(field)[-1:]:
                index = order - 1
                table = plain_waves.gauss_table(field, order, index)
                self.assertEqual(told(gauss(field, order, index)), plain_waves.entries_of(order, field.prime, table))

    def test_at_elements(self):
        for field in FIELDS:
            if field.prime <= 19:
                for order in orders_of(field):
                    index = (order + 1) // 2 % order
                    for element in list(field)[::1 + field.size // 6] + [0, field.size - 1]:
                        table = plain_waves.gauss_table(field, order, index, element)
                        entries = plain_waves.entries_of(order, field.prime, table)
                        self.assertEqual(told(gauss_at(field, order, index, element)), entries)
                    self.assertEqual(gauss_at(field, order, index, 1), gauss(field, order, index))
                    zero = gauss_at(field, order, 0, 0).as_turn()
                    self.assertEqual(zero, Turn.whole(order, field.size - 1))

    def test_rules(self):
        for field in FIELDS + GREATER[:3]:
            if field.prime <= 19:
                for order in orders_of(field):
                    self.assertEqual(gauss(field, order, 0).as_turn(), Turn.whole(order, -1))
                    for index in range(1, order):
                        self.check_rules(field, order, index)

    def check_rules(self, field, order, index):
        wave, character = gauss(field, order, index), Character(field, order, index)
        self.assertEqual(wave.times(wave.mirrored()).as_turn(), Turn.whole(order, field.size))
        product = wave.times(gauss(field, order, order - index)).as_turn()
        self.assertEqual(product, Turn.whole(order, character.sign * field.size))
        for number in range(1, field.prime):
            moved = wave.scaled(character.opposite().value_at(number))
            self.assertEqual(wave.moved(number), moved)
            self.assertEqual(gauss_at(field, order, index, number), moved)
        for unit in plain_turns.units(order):
            self.assertEqual(wave.turned(unit), gauss(field, order, unit * index % order))

    def test_powers_with_the_exact_order(self):
        for field in FIELDS + [Field(19), Field(3, 5)]:
            if field.prime <= 19:
                for order in orders_of(field):
                    for index in range(order):
                        exact = order // math.gcd(order, index)
                        power = gauss(field, order, index)
                        for _ in range(exact - 1):
                            power = power.times(gauss(field, order, index))
                        self.assertTrue(power.is_turn)
                        self.assertEqual(gauss_power(field, order, index), power.as_turn())

    def test_quadratic_ones(self):
        for prime in (3, 5, 7, 11, 13, 17, 19):
            told_power = prime if prime % 4 == 1 else -prime
            self.assertEqual(gauss_power(Field(prime), 2, 1), Turn.whole(2, told_power))

    def test_products_and_sums_j(self):
        chance = random.Random(114)
        for field in FIELDS:
            if field.prime <= 19:
                for order in orders_of(field):
                    for many in (1, 2, 3, 6):
                        indices = tuple(chance.randrange(order) for _ in range(many))
                        product = gauss_product(field, order, indices)
                        if sum(indices) % order:
                            both = gauss(field, order, sum(indices) % order)
                            self.assertEqual(product, both.scaled(jacobi(field, order, indices)))
                            self.assertEqual(jacobi_by_gauss(field, order, indices), jacobi(field, order, indices))

    def test_sums_j_by_counting(self):
        for field in plain_classes.small_fields(13):
            for order in orders_of(field):
                for indices in list(itertools.product(range(order), repeat=2)) + [(1, 2, 1)] * (order > 4):
                    if sum(indices) % order:
                        entries = plain_classes.sum_j(field, order, indices)
                        self.assertEqual(jacobi_by_gauss(field, order, indices).entries, entries)

    def test_products_one_by_one(self):
        field = Field(13)
        for indices in ((1,), (0,) * 12, (1, 3, 2), (11, 1), tuple(range(12)), (5,) * 12):
            table = plain_waves.gauss_table(field, 12, indices[0])
            for index in indices[1:]:
                table = plain_waves.product(12, 13, table, plain_waves.gauss_table(field, 12, index))
            self.assertEqual(told(gauss_product(field, 12, indices)), plain_waves.entries_of(12, 13, table))

    def test_both_sides_of_the_rule_for_parts(self):
        for field in FIELDS + [Field(7, 2), Field(3, 4)]:
            if field.prime <= 19:
                for order in orders_of(field):
                    for part in [number for number in range(1, order + 1) if order % number == 0]:
                        for index in sorted({0, 1 % order, order - 1, order // 2}):
                            self.check_sides(field, order, index, part)

    def check_sides(self, field, order, index, part):
        left, right = product_sides(field, order, index, part)
        self.assertEqual(left, right)
        step = order // part
        plain = gauss_product(field, order, tuple((index + number * step) % order for number in range(part)))
        self.assertEqual(left, plain)
        element = 0
        for _ in range(part):
            element = field.plus(element, 1)
        factor = Character(field, order, index).raised(-part).value_at(element)
        others = (part * index % order,) + tuple(number * step for number in range(1, part))
        self.assertEqual(right, gauss_product(field, order, others).scaled(factor))

    def test_above(self):
        for field, most in ((Field(2), 6), (Field(2, 2), 4), (Field(3), 5), (Field(5), 3), (Field(7), 3), (Field(3, 2), 2), (Field(13), 2)):
            for many in range(1, most + 1):
                tower = Tower(field, many)
                for order in orders_of(field):
                    for index in range(order):
                        table = plain_waves.gauss_table_above(tower, order, index)
                        entries = plain_waves.entries_of(order, field.prime, table)
                        self.assertEqual(told(gauss_above(field, order, index, many)), entries)

    def test_above_by_powers(self):
        for field, order, index in ((Field(5), 4, 1), (Field(19), 9, 2), (Field(2, 4), 5, 3)):
            for many in range(1, 13):
                power = gauss(field, order, index).raised(many)
                self.assertEqual(gauss_above(field, order, index, many), power if many % 2 else power.opposite())

    def test_what_is_not_true(self):
        self.assertEqual(gauss(Field(2, 2), 3, 1), gauss(Field(2, 2), 3, 2))
        field = Field(5)
        both = gauss(field, 4, 1).times(gauss(field, 4, 3))
        self.assertNotEqual(both, gauss(field, 4, 0).scaled(jacobi(field, 4, (1, 3))))


if __name__ == "__main__":
    unittest.main()
