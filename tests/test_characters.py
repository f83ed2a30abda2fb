"""Characters: [0.12] and [5.1] to [5.6], held against plain reckoning."""

import math
import random
import unittest

from carryturns.character.characters import (
    Character, characters, class_sums, class_values, count_roots, total_of,
)
from carryturns.errors import InvalidOperation
from carryturns.field.fields import Field
from carryturns.turn.turns import Turn
from tests import plain_classes, plain_turns
from tests.support import all_kinds, assert_raises

FIELDS = plain_classes.small_fields()
GREAT = [Field(73), Field(7, 2), Field(2, 9), Field(509), Field(3, 5), Field(97)]


def sum_of(order, turns):
    """The sum of turn numbers."""
    found = Turn.whole(order, 0)
    for turn in turns:
        found = found.plus(turn)
    return found


class Values(unittest.TestCase):
    def test_values_by_logs(self):
        for field in FIELDS + GREAT:
            logs = plain_classes.logs_of(field)
            for order in field.orders:
                for index in range(0, order, 1 + (order // 5 if field.size > 25 else 0)):
                    character = Character(field, order, index)
                    self.assertIs(character.value_at(0).is_zero, True)
                    self.assertEqual(character.value_at(0).order, order)
                    for element in range(1, field.size, 1 + field.size // 40):
                        told = plain_turns.entries_of(order, {index * logs[element]: 1})
                        value = character.value_at(element)
                        self.assertEqual((value.order, value.entries), (order, told))

    def test_products_of_elements(self):
        for field in plain_classes.small_fields(13):
            for order in field.orders:
                for character in characters(field, order):
                    values = [character.value_at(element) for element in field]
                    for one in field:
                        for other in field:
                            self.assertEqual(values[field.times(one, other)], values[one].times(values[other]))

    def test_properties(self):
        for field in FIELDS + GREAT:
            minus_one = field.opposite(1)
            for order in field.orders:
                for index in range(order):
                    character = Character(field, order, index)
                    self.assertEqual((character.field, character.order, character.number), (field, order, index))
                    self.assertIs(character.is_trivial, index == 0)
                    exact = [many for many in range(1, order + 1) if index * many % order == 0][0]
                    self.assertEqual(character.exact, exact)
                    self.assertEqual(character.value_at(minus_one), Turn.whole(order, character.sign))
                    even = field.prime == 2 or (field.size - 1) // order % 2 == 0 or index % 2 == 0
                    self.assertEqual(character.sign, 1 if even else -1)
                    self.assertIs(type(character.sign), int)

    def test_a_character_never_changes(self):
        character = Character(Field(7), 3, 1)
        for name in ("field", "order", "number", "exact", "is_trivial", "sign"):
            with self.assertRaises(AttributeError):
                setattr(character, name, 0)
        self.assertRaises(TypeError, iter, character)

    def test_text(self):
        self.assertEqual(str(Character(Field(13), 4, 2)), "character 2 of order 4 over 13")
        self.assertEqual(str(Character(Field(5, 2), 24, 23)), "character 23 of order 24 over 25")
        self.assertEqual(str(Character(Field(2), 1, 0)), "character 0 of order 1 over 2")

    def test_equality(self):
        told = [(field, order, index) for field in plain_classes.small_fields(9)
                for order in field.orders for index in range(order)]
        for at, one in enumerate(told):
            for to, other in enumerate(told):
                self.assertIs(Character(*one) == Character(*other), at == to)
                self.assertIs(Character(*one) != Character(*other), at != to)
        for value in all_kinds():
            same = isinstance(value, Character) and (value.field.size, value.order, value.number) == (7, 3, 1)
            self.assertIs(Character(Field(7), 3, 1) == value, same)
            self.assertIs(Character(Field(7), 3, 1) != value, not same)


class Reckoning(unittest.TestCase):
    def test_products(self):
        for field in FIELDS:
            for order in field.orders:
                found = characters(field, order)
                for one in found:
                    for other in found:
                        product = one.times(other)
                        self.assertEqual(product.number, (one.number + other.number) % order)
                        for element in range(0, field.size, 1 + field.size // 5):
                            told = one.value_at(element).times(other.value_at(element))
                            self.assertEqual(product.value_at(element), told)

    def test_powers(self):
        for field in FIELDS:
            for order in field.orders:
                for one in characters(field, order):
                    for many in (0, 1, 2, -1, -7, order, 10 ** 60 - 1, 1 - 10 ** 60):
                        self.assertEqual(one.raised(many), Character(field, order, many * one.number % order))
                    self.assertIs(one.raised(one.exact).is_trivial, True)
                    self.assertEqual(one.opposite(), one.raised(-1))
                    self.assertIs(one.times(one.opposite()).is_trivial, True)

    def test_widened(self):
        for field in FIELDS + GREAT:
            for order in field.orders:
                for multiple in [much for much in field.orders if much % order == 0]:
                    for index in range(order):
                        one = Character(field, order, index)
                        wide = one.widened(multiple)
                        self.assertEqual((wide.order, wide.exact), (multiple, one.exact))
                        for element in range(0, field.size, 1 + field.size // 4):
                            self.assertEqual(wide.value_at(element), one.value_at(element).lifted(multiple))

    def test_all_characters(self):
        for field in FIELDS + GREAT:
            for order in field.orders:
                found = characters(field, order)
                self.assertIs(type(found), tuple)
                self.assertEqual(list(found), [Character(field, order, index) for index in range(order)])

    def test_totals(self):
        for field in FIELDS:
            for order in field.orders:
                for character in characters(field, order):
                    told = sum_of(order, [character.value_at(element) for element in field])
                    self.assertEqual(total_of(character), told)
                    number = field.size - 1 if character.is_trivial else 0
                    self.assertEqual(total_of(character), Turn.whole(order, number))

    def test_sums_over_all_characters(self):
        for field in FIELDS:
            for order in field.orders:
                for element in field:
                    told = sum_of(order, [one.value_at(element) for one in characters(field, order)])
                    roots = [other for other in range(1, field.size) if field.raised(other, order) == element]
                    self.assertEqual(told, Turn.whole(order, len(roots)))

    def test_roots_by_trying(self):
        for field in FIELDS + [Field(31), Field(2, 6), Field(7, 2)]:
            for exponent in list(range(1, 14)) + [field.size - 1, field.size, 10 ** 60 - 1, 6 ** 70 // 6]:
                if exponent < 10 ** 60:
                    counts = dict.fromkeys(field, 0)
                    for element in field:
                        counts[field.raised(element, exponent)] += 1
                    found = {element: count_roots(field, exponent, element) for element in field}
                    self.assertEqual(found, counts)
                    self.assertEqual(found[0], 1)

    def test_great_exponents_of_roots(self):
        field = Field(509)
        for exponent in (508, 127 * 10 ** 50, 10 ** 60 - 4, 1):
            many = math.gcd(exponent, 508)
            told = [many if field.log_of(element) % many == 0 else 0 for element in range(1, 509)]
            self.assertEqual([count_roots(field, exponent, element) for element in range(1, 509)], told)

    def test_what_is_not_true(self):
        field = Field(7)
        # Each character of the order 2 is 1 at 2, which is no 1.
        self.assertEqual([one.value_at(2) for one in characters(field, 2)], [Turn.whole(2, 1)] * 2)
        for one in characters(field, 3):
            self.assertEqual(one.value_at(3), one.value_at(4))


class Classes(unittest.TestCase):
    def test_sums(self):
        chance = random.Random(52)
        for order in range(1, 25):
            for most in (1, 9, 10 ** 60 - 1):
                values = tuple(chance.randint(-most, most) for _ in range(order))
                sums = class_sums(order, values)
                self.assertIs(type(sums), tuple)
                for index in range(order):
                    powers = {}
                    for number, value in enumerate(values):
                        exponent = -index * number % order
                        powers[exponent] = powers.get(exponent, 0) + value
                    told = plain_turns.entries_of(order, powers)
                    self.assertEqual((sums[index].order, sums[index].entries), (order, told))
                self.assertEqual(class_values(order, sums), values)

    def test_sums_of_squares(self):
        chance = random.Random(53)
        for order in range(1, 25):
            values = tuple(chance.randint(-9, 9) for _ in range(order))
            squares = [turn.times(turn.mirrored()) for turn in class_sums(order, values)]
            told = order * sum(value * value for value in values)
            self.assertEqual(sum_of(order, squares), Turn.whole(order, told))

    def test_made_sums_may_be_longer(self):
        sums = class_sums(3, (10 ** 60 - 1, 0, 1 - 10 ** 60))
        more = tuple(turn.scaled(10 ** 59) for turn in sums)
        self.assertEqual(class_values(3, more), tuple(10 ** 59 * value for value in (10 ** 60 - 1, 0, 1 - 10 ** 60)))

    def test_no_integers(self):
        for order in range(2, 25):
            zero = (Turn.whole(order, 0),) * order
            self.assertEqual(class_values(order, zero), (0,) * order)
            for index in range(order):
                for turn in (Turn.whole(order, 1), Turn.power(order, 1)):
                    sums = zero[:index] + (turn,) + zero[index + 1:]
                    assert_raises(self, InvalidOperation, None, class_values, order, sums)
        # The values would be 1 at z, and no integers.
        sums = (Turn.power(4, 1),) * 4
        assert_raises(self, InvalidOperation, None, class_values, 4, sums)

    def test_orders_of_no_field(self):
        self.assertEqual(class_values(24, class_sums(24, tuple(range(24)))), tuple(range(24)))
        self.assertEqual(class_sums(1, (5,)), (Turn(1, (5,)),))


if __name__ == "__main__":
    unittest.main()
