"""Carries: [0.17] and [12.1] to [12.6], held against all tuples of 0 and 1, sums J and putting in."""

import itertools
import math
import random
import unittest

from carryturns.base.numbers import digit_sum, digits_of
from carryturns.carry.carries import (
    binomial_left, carries_of, carry_row, count_carries, least_carries, left_at_generator, prime_power_in, rest_of,
)
from carryturns.field.fields import Field
from carryturns.total.totals import jacobi
from carryturns.turn.turns import Turn
from tests import plain_classes

FIELDS = plain_classes.small_fields() + [Field(3, 3), Field(2, 5), Field(7, 2), Field(2, 6), Field(73)]
GREATER = [Field(2, 9), Field(5, 3), Field(3, 5), Field(509), Field(13, 2), Field(2, 8)]


def plain_digits(number, prime, degree):
    """The digits, one by one, with zeros behind them."""
    return [number // prime ** place % prime for place in range(degree)]


def plain_carries(field, one, other):
    """All tuples of 0 and 1 that are carries."""
    p, f = field.prime, field.degree
    firsts, seconds = plain_digits(one, p, f), plain_digits(other, p, f)
    rests = plain_digits((one + other) % (field.size - 1), p, f)
    return [
        found for found in itertools.product((0, 1), repeat=f)
        if all(firsts[i] + seconds[i] + found[i] == rests[i] + p * found[(i + 1) % f] for i in range(f))
    ]


def proper_pairs(order):
    """All proper pairs of indices."""
    return [(a, b) for a in range(1, order) for b in range(1, order) if (a + b) % order]


def units(order):
    """The units modulo an order, from 0 on."""
    return [unit for unit in range(order) if math.gcd(unit, order) == 1]


def drawn_pairs(field, many, seed):
    """Pairs of integers from 0 to q - 2; all of them for small fields."""
    if field.size < 30:
        return itertools.product(range(field.size - 1), repeat=2)
    chance = random.Random(seed)
    return [(chance.randrange(field.size - 1), chance.randrange(field.size - 1)) for _ in range(many)] + [
        (0, field.size - 2), (1, field.size - 2), (field.size - 2, field.size - 2), (0, 0), (1, field.size - 3),
    ]


class Carries(unittest.TestCase):
    def test_there_is_just_one_tuple(self):
        for field in FIELDS + GREATER:
            for one, other in drawn_pairs(field, 40, field.size):
                self.assertEqual([carries_of(field, one, other)], plain_carries(field, one, other))

    def test_numbers(self):
        for field in FIELDS + GREATER:
            q, p = field.size, field.prime
            for one, other in drawn_pairs(field, 60, q + 1):
                many = count_carries(field, one, other)
                self.assertEqual(many, sum(carries_of(field, one, other)))
                told = digit_sum(one, p) + digit_sum(other, p) - digit_sum((one + other) % (q - 1), p)
                self.assertEqual(many * (p - 1), told)
                if one == 0 or other == 0:
                    self.assertEqual(many, 0)
                elif one + other == q - 1:
                    self.assertEqual(many, field.degree)

    def test_carries_go_round(self):
        for field in FIELDS + GREATER:
            q, p = field.size, field.prime
            for one, other in drawn_pairs(field, 60, q + 2):
                carries = carries_of(field, one, other)
                round_by_one = carries[-1:] + carries[:-1]
                self.assertEqual(carries_of(field, p * one % (q - 1), p * other % (q - 1)), round_by_one)

    def test_they_do_not_stop_at_the_last_place(self):
        self.assertEqual(carries_of(Field(2, 3), 6, 5), (1, 1, 1))
        self.assertEqual(digits_of(11, 2), (1, 1, 0, 1))

    def test_rests(self):
        for field in FIELDS + GREATER:
            for order in field.orders:
                step = (field.size - 1) // order
                for a in range(order):
                    for unit in units(order):
                        rest = rest_of(field, order, a, unit)
                        self.assertTrue(0 <= rest < field.size - 1)
                        self.assertEqual((rest + unit * a * step) % (field.size - 1), 0)


class Rows(unittest.TestCase):
    def test_rows(self):
        for field in FIELDS:
            for order in field.orders:
                for a in range(order):
                    for b in range(0, order, 1 + order // 8):
                        row = carry_row(field, order, a, b)
                        self.assertEqual(list(row), units(order))
                        for unit, many in row.items():
                            rests = rest_of(field, order, a, unit), rest_of(field, order, b, unit)
                            self.assertEqual(many, sum(plain_carries(field, *rests)[0]))

    def test_rules_for_rows(self):
        for field in FIELDS + GREATER:
            for order in field.orders:
                for a, b in proper_pairs(order)[::1 + order // 5]:
                    row = carry_row(field, order, a, b)
                    for unit, many in row.items():
                        self.assertEqual(many + row[-unit % order], field.degree)
                        self.assertEqual(many, row[field.prime * unit % order])
                    self.assertEqual(least_carries(field, order, a, b), min(row.values()))

    def test_powers_of_the_prime_in_sums_j(self):
        some = 0
        for field in FIELDS + GREATER:
            for order in field.orders:
                for a, b in proper_pairs(order)[::1 + order // 4]:
                    total = jacobi(field, order, (a, b))
                    many = 0
                    entries = total.entries
                    while all(entry % field.prime == 0 for entry in entries):
                        entries, many = [entry // field.prime for entry in entries], many + 1
                    self.assertEqual(least_carries(field, order, a, b), many)
                    self.assertEqual(prime_power_in(field, total), many)
                    some += many > 0
        self.assertTrue(some > 20)

    def test_powers_of_the_prime(self):
        for field in FIELDS:
            p = field.prime
            for many in (0, 1, 2, 7, 40):
                for order in (1, 2, 5, 60):
                    one = Turn.power(order, 1).scaled(3 if p != 3 else 2)
                    power = Turn.whole(order, p).raised(many)
                    self.assertEqual(prime_power_in(field, one.times(power)), many)
                    self.assertIsNone(prime_power_in(field, one.scaled(0)))
        self.assertEqual(prime_power_in(Field(2), Turn(5, (4, 8, 2, 16))), 1)
        self.assertEqual(prime_power_in(Field(2), Turn(5, (4, 0, 3, 16))), 0)

    def test_what_is_not_true(self):
        row = carry_row(Field(2, 3), 7, 1, 2)
        self.assertTrue(max(row.values()) > 0)
        self.assertEqual(prime_power_in(Field(2, 3), jacobi(Field(2, 3), 7, (1, 2))), 0)
        self.assertEqual((row[1], min(row.values())), (3, 0))


class WhatIsLeft(unittest.TestCase):
    def put_in(self, field, turn):
        """The sum of all entries times powers of the generator, by adding up again and again."""
        step = field.power_of((field.size - 1) // turn.order)
        total, power = 0, 1
        for entry in turn.entries:
            for _ in range(entry % field.prime):
                total = field.plus(total, power)
            power = field.times(power, step)
        return total

    def test_putting_in(self):
        chance = random.Random(125)
        for field in FIELDS + GREATER:
            for order in field.orders:
                width = len(Turn.power(order, 0).entries)
                one, other = [Turn(order, tuple(chance.randint(-999, 999) for _ in range(width))) for _ in range(2)]
                first, second = left_at_generator(field, one), left_at_generator(field, other)
                self.assertEqual(first, self.put_in(field, one))
                self.assertEqual(left_at_generator(field, one.plus(other)), field.plus(first, second))
                self.assertEqual(left_at_generator(field, one.times(other)), field.times(first, second))
                for many in range(order):
                    told = field.power_of(many * ((field.size - 1) // order))
                    self.assertEqual(left_at_generator(field, Turn.power(order, many)), told)

    def test_what_sums_j_leave(self):
        zeros = others = 0
        for field in FIELDS + GREATER:
            for order in field.orders:
                for a, b in proper_pairs(order)[::1 + order // 4]:
                    left = binomial_left(field, order, a, b)
                    self.assertEqual(left, left_at_generator(field, jacobi(field, order, (a, b))))
                    one, other = rest_of(field, order, a, 1), rest_of(field, order, b, 1)
                    told = -math.comb(one + other, one) % field.prime if one + other < field.size - 1 else 0
                    self.assertEqual(left, told)
                    self.assertEqual(left == 0, carry_row(field, order, a, b)[1] > 0)
                    zeros, others = zeros + (left == 0), others + (left != 0)
        self.assertTrue(min(zeros, others) > 100)


if __name__ == "__main__":
    unittest.main()
