"""Fields above: [10.3] to [10.7], held against sums and solutions over towers."""

import itertools
import math
import random
import unittest

from carryturns.above.lifts import (
    count_above, count_parts, count_plainly_above, count_polynomial, counts_by_polynomial, jacobi_above,
)
from carryturns.character.characters import Character
from carryturns.count.equations import Equation, amount_of, count_by_classes, count_by_sums, shares_of
from carryturns.errors import InvalidOperation, TooMany
from carryturns.field.fields import Field
from carryturns.total.totals import jacobi
from carryturns.turn.turns import Turn
from tests import plain_classes, plain_towers, plain_turns
from tests.support import assert_raises

PLAIN = {}


def plain_tower(field, many):
    """The plain tower, made once."""
    if (field.size, many) not in PLAIN:
        PLAIN[field.size, many] = plain_towers.PlainTower(field, many, plain_towers.least_poly(field, many))
    return PLAIN[field.size, many]


def sum_above(field, order, indices, many):
    """The sum above, by adding up over all tuples of elements of the tower that add up to 1."""
    tower = plain_tower(field, many)
    values = []
    for index in indices:
        character = Character(field, order, index)
        values.append({one: character.value_at(tower.norm(one)) for one in tower.members})
    sums = {(0,) * many: Turn.whole(order, 1)}
    for value in values:
        more = {}
        for known, turn in sums.items():
            for one in tower.members:
                total = tower.plus(known, one)
                more[total] = more.get(total, Turn.whole(order, 0)).plus(turn.times(value[one]))
        sums = more
    return sums[tower.one]


def plain_count(equation, many):
    """The number of solutions over a tower, by trying all tuples."""
    tower, values = plain_tower(equation.field, many), []
    for factor, exponent in equation.terms:
        above = (factor,) + (0,) * (many - 1)
        values.append([tower.times(above, tower.raised(one, exponent)) for one in tower.members])
    goal, count = (equation.goal,) + (0,) * (many - 1), 0
    for found in itertools.product(*values):
        total = (0,) * many
        for value in found:
            total = tower.plus(total, value)
        count += total == goal
    return count


def dividing_equations(seed, fields, most, goals=None, shares=20000):
    """A generator of equations by chance whose exponents divide q - 1, with at most so many shares."""
    chance = random.Random(seed)
    for field in fields:
        exponents = [number for number in range(1, field.size) if (field.size - 1) % number == 0]
        for many in range(1, most + 1):
            for _ in range(4):
                terms = tuple((chance.randrange(1, field.size), chance.choice(exponents)) for _ in range(many))
                for goal in goals or (0, chance.randrange(1, field.size)):
                    if goal < field.size:
                        equation = Equation(field, terms, goal)
                        if equation.order <= 24 and math.prod(share - 1 for share in equation.exponents) <= shares:
                            yield equation


class SumsAbove(unittest.TestCase):
    def test_by_adding_up(self):
        for field, many in ((Field(3), 2), (Field(3), 3), (Field(2, 2), 2), (Field(5), 2), (Field(7), 2), (Field(2), 3)):
            for order in field.orders:
                for indices in list(itertools.product(range(1, order), repeat=2))[::1 + order // 3]:
                    self.assertEqual(jacobi_above(field, order, indices, many), sum_above(field, order, indices, many))
        for field, many in ((Field(3), 2), (Field(2, 2), 2)):
            for order in field.orders:
                for length in (1, 3, 4):
                    for indices in list(itertools.product(range(1, order), repeat=length))[::5]:
                        told = sum_above(field, order, indices, many)
                        self.assertEqual(jacobi_above(field, order, indices, many), told)

    def test_powers_of_the_sum(self):
        chance = random.Random(111)
        for field in plain_classes.small_fields():
            for order in [number for number in field.orders if number > 1]:
                for many in (1, 2, 3, 12):
                    for length in (1, 2, 5, 6):
                        indices = tuple(chance.randrange(1, order) for _ in range(length))
                        told = jacobi(field, order, indices).raised(many)
                        told = told.scaled((-1) ** ((many - 1) * (length - 1)))
                        self.assertEqual(jacobi_above(field, order, indices, many), told)
                    self.assertEqual(jacobi_above(field, order, (1,), 1), jacobi(field, order, (1,)))


class CountsAbove(unittest.TestCase):
    def test_by_trying(self):
        for field, many, most in ((Field(2), 2, 4), (Field(3), 2, 3), (Field(2, 2), 2, 2), (Field(5), 2, 2),
                                  (Field(2), 5, 2), (Field(3), 4, 1), (Field(7), 2, 2), (Field(3, 2), 1, 3)):
            chance = random.Random(112)
            for length in range(1, most + 1):
                for _ in range(3):
                    terms = tuple((chance.randrange(1, field.size), chance.choice((1, 2, 3, 5, 6, 999)))
                                  for _ in range(length))
                    for goal in {0, 1, field.size - 1}:
                        equation = Equation(field, terms, goal)
                        told = plain_count(equation, many)
                        self.assertEqual(count_plainly_above(equation, many), told)
                        if all((field.size - 1) % exponent == 0 for _, exponent in terms):
                            self.assertEqual(count_above(equation, many), told)

    def test_both_ways(self):
        fields = plain_classes.small_fields(13) + [Field(7, 2), Field(61)]
        checked = 0
        for equation in dividing_equations(113, fields, 6):
            size = equation.field.size
            for many in range(1, 7):
                if size ** many <= 1000 and (size ** many) ** (len(equation) - 1) <= 20000:
                    self.assertEqual(count_above(equation, many), count_plainly_above(equation, many))
                    checked += 1
        self.assertTrue(checked > 300)

    def test_one_fold(self):
        for equation in dividing_equations(114, plain_classes.small_fields(13), 6):
            self.assertEqual(count_above(equation, 1), count_by_sums(equation))
            if equation.field.size ** (len(equation) - 1) <= 2000:
                self.assertEqual(count_plainly_above(equation, 1), count_by_classes(equation))

    def test_by_powers_of_amounts(self):
        for equation in dividing_equations(115, plain_classes.small_fields(13), 4, shares=400):
            q, s, order = equation.field.size, len(equation), equation.order
            for many in (1, 2, 3, 12):
                total, size = Turn.whole(order, 0), q ** many
                for share in shares_of(equation):
                    weight = amount_of(equation, share)
                    if equation.goal == 0:
                        weight = weight.divided(Turn.whole(order, q - 1))
                    total = total.plus(weight.raised(many))
                sign = (-1) ** ((many - 1) * (s - 1))
                if equation.goal == 0:
                    sign = (size - 1) * (-1) ** ((many - 1) * s)
                told = Turn.whole(order, size ** (s - 1)).plus(total.scaled(sign))
                self.assertEqual(told.entries[1:], (0,) * (len(told.entries) - 1))
                self.assertEqual(count_above(equation, many), told.entries[0])

    def test_greatest_towers(self):
        for field, many in ((Field(2), 12), (Field(2, 2), 6), (Field(2, 4), 3), (Field(2, 6), 2)):
            exponent = 3 if field.size > 2 else 1
            equation = Equation(field, ((1, exponent), (1, exponent)), 1)
            self.assertEqual(count_plainly_above(equation, many), count_above(equation, many))

    def test_other_exponents(self):
        # Above, 3 divides the number of the elements less 1, and below it does not.
        equation = Equation(Field(2), ((1, 3), (1, 3)), 1)
        self.assertEqual([count_plainly_above(equation, many) for many in (1, 2)], [2, 6])
        assert_raises(self, InvalidOperation, None, count_above, equation, 1)
        equation = Equation(Field(7), ((1, 6), (1, 9)), 1)
        assert_raises(self, InvalidOperation, None, count_above, equation, 1)
        assert_raises(self, InvalidOperation, None, count_polynomial, equation)

    def test_edges_of_what_is_tried(self):
        for field, many, length, limit in (
            (Field(2), 12, 1, None), (Field(2), 12, 2, None), (Field(2), 12, 3, 20000), (Field(3), 8, 1, 4096),
            (Field(3), 8, 6, 4096), (Field(3), 7, 1, None), (Field(13), 2, 3, 20000), (Field(11), 2, 3, None),
            (Field(139), 1, 3, None), (Field(149), 1, 3, 20000), (Field(7), 1, 6, None), (Field(2, 3), 1, 6, 20000),
            (Field(5), 1, 6, None), (Field(67), 2, 1, 4096), (Field(61), 2, 1, None), (Field(2), 7, 3, None),
            (Field(2), 8, 3, 20000),
        ):
            equation = Equation(field, ((1, 1),) * length, 1)
            if limit is None:
                told = (field.size ** many) ** (length - 1)
                self.assertTrue(told <= 20000)
                self.assertEqual(count_plainly_above(equation, many), told)
            else:
                assert_raises(self, TooMany, limit, count_plainly_above, equation, many)


class Polynomials(unittest.TestCase):
    def equations(self, seed):
        fields = plain_classes.small_fields(19) + [Field(5, 2), Field(7, 2)]
        return dividing_equations(seed, fields, 5, goals=(1, 2), shares=30)

    def test_by_amounts(self):
        for equation in self.equations(116):
            order, sign = equation.order, (-1) ** (len(equation) - 1)
            poly = [Turn.whole(order, 1)]
            for share in shares_of(equation):
                amount = amount_of(equation, share)
                found = [Turn.whole(order, 0)] * (len(poly) + 1)
                for at, turn in enumerate(poly):
                    found[at] = found[at].plus(turn)
                    found[at + 1] = found[at + 1].minus(turn.times(amount).scaled(sign))
                poly = found
            told = count_polynomial(equation)
            self.assertIs(type(told), tuple)
            self.assertEqual([turn.entries for turn in poly],
                             [(entry,) + (0,) * (len(poly[0].entries) - 1) for entry in told])

    def test_parts(self):
        for equation in self.equations(117):
            pure, rest = count_parts(equation)
            self.assertEqual(tuple(plain_turns.times(pure, rest)), count_polynomial(equation))
            many = sum(1 for share in shares_of(equation) if sum(share) % equation.order)
            self.assertEqual((len(pure) - 1, len(pure) + len(rest) - 2), (many, len(shares_of(equation))))

    def test_mirror_rules(self):
        for equation in self.equations(118):
            q, s = equation.field.size, len(equation)
            for part, size in zip(count_parts(equation), (s - 1, s - 2)):
                last = len(part) - 1
                if last > 0:
                    self.assertEqual(part[last] ** 2, (q ** size) ** last)
                    for k in range(last + 1):
                        self.assertEqual(part[last - k] * (q ** size) ** k, part[last] * part[k])

    def test_counts_told(self):
        for equation in self.equations(119):
            q, s = equation.field.size, len(equation)
            poly = count_polynomial(equation)
            if max(map(abs, poly)) < 10 ** 60:
                found = counts_by_polynomial(q, s, poly, 12)
                for many in (1, 2, 3, 12) if equation.order < 8 else (2, 5):
                    self.assertEqual(found[many - 1], count_above(equation, many))
                    self.assertEqual(counts_by_polynomial(q, s, poly, many), found[:many])

    def test_by_the_rule(self):
        chance = random.Random(120)
        for _ in range(60):
            size, terms, many = chance.choice((2, 9, 13, 512)), chance.randint(1, 6), chance.randint(1, 12)
            poly = (1,) + tuple(chance.randint(-9, 9) for _ in range(chance.choice((0, 1, 2, 5, 60))))
            found = counts_by_polynomial(size, terms, poly, many)
            self.assertEqual((type(found), len(found)), (tuple, many))
            sums = {n: (count - size ** (n * (terms - 1))) * (-1) ** (terms - 1) for n, count in enumerate(found, 1)}
            for n in sums:
                entries = list(poly) + [0] * 20
                told = sums[n] + sum(entries[k] * sums[n - k] for k in range(1, n)) + n * entries[n]
                self.assertEqual(told, 0)
        self.assertEqual(counts_by_polynomial(7, 2, (1,), 3), (7, 49, 343))
        self.assertEqual(counts_by_polynomial(2, 1, (1, 10 ** 60 - 1), 2), (2 - 10 ** 60, 1 + (10 ** 60 - 1) ** 2))

    def test_without_shares(self):
        for equation in (Equation(Field(7), ((1, 1),) * 6, 1), Equation(Field(2), ((1, 1),), 1)):
            self.assertEqual((count_polynomial(equation), count_parts(equation)), ((1,), ((1,), (1,))))
            self.assertEqual(counts_by_polynomial(equation.field.size, len(equation), (1,), 12),
                             tuple(count_above(equation, many) for many in range(1, 13)))

    def test_edges_of_shares(self):
        # The numbers of shares are products of exponents less 1.
        field = Field(61)
        right = Equation(field, ((1, 2), (1, 6), (1, 3), (1, 4), (1, 3)), 5)
        self.assertEqual(len(shares_of(right)), 60)
        self.assertEqual(len(count_polynomial(right)), 61)
        for terms, limit in (
            (((1, 5),) * 3, 60), (((1, 3),) * 6, 60), (((1, 10),) * 4, 60), (((1, 20),) * 4, 20000), (((1, 30),), 24),
            (((1, 60),) * 6, 24), (((1, 12), (1, 5)), 24),
        ):
            equation = Equation(field, terms, 5)
            for call in (count_polynomial, count_parts):
                assert_raises(self, TooMany, limit, call, equation)
                assert_raises(self, InvalidOperation, None, call, equation.with_goal(0))
            if limit == 60:
                self.assertEqual(count_above(equation, 1), count_by_sums(equation))
            else:
                assert_raises(self, TooMany, limit, count_above, equation, 1)

    def test_what_is_not_true(self):
        # Without a solution over the field, and with some above.
        equation = Equation(Field(7), ((1, 2),), 3)
        self.assertEqual([count_above(equation, 1), count_above(equation, 2)], [0, 2])
        signs = [min(count_parts(equation)[0]) for equation in self.equations(116)]
        self.assertTrue(min(signs) < 0)


if __name__ == "__main__":
    unittest.main()
