"""Equations between powers: [0.15] and [9.1] to [9.7], held against trying all tuples."""

import inspect
import itertools
import math
import random
import unittest

from carryturns.character.characters import Character
from carryturns.count.equations import (
    Equation, amount_of, count_by_classes, count_by_sums, count_plainly, counts_by_goal, least_number, power_sums,
    reach_of, shares_of, solutions,
)
from carryturns.errors import InvalidEquation, InvalidPaper, TooMany
from carryturns.field.fields import Field
from carryturns.total.totals import jacobi
from carryturns.turn.turns import Turn
from tests import plain_classes
from tests.support import all_kinds, assert_raises, plain_integer

FIELDS = plain_classes.small_fields()


def value_at(field, terms, found):
    """What the left side makes of a tuple, by products one by one."""
    total = 0
    for (factor, exponent), element in zip(terms, found):
        power = 1
        for _ in range(exponent):
            power = field.times(power, element)
        total = field.plus(total, field.times(factor, power))
    return total


def all_counts(field, terms):
    """The numbers of solutions for all goals, by adding up how often each value of a term is there."""
    counts = {0: 1}
    for factor, exponent in terms:
        more = {}
        for element in field:
            value = field.times(factor, field.raised(element, exponent))
            for known, many in counts.items():
                total = field.plus(known, value)
                more[total] = more.get(total, 0) + many
        counts = more
    return tuple(counts.get(goal, 0) for goal in field)


def some_terms(chance, field, many, exponents=range(1, 30)):
    """Terms by chance."""
    return tuple((chance.randrange(1, field.size), chance.choice(exponents)) for _ in range(many))


def some_equations(seed, most=6, tuples=3000, fields=None):
    """A generator of equations by chance with few enough tuples to try."""
    chance = random.Random(seed)
    for field in fields or FIELDS:
        for many in range(1, most + 1):
            if field.size ** many <= tuples:
                for _ in range(4):
                    terms = some_terms(chance, field, many, list(range(1, 13)) + [1000, field.size - 1 or 1])
                    for goal in {0, 1, field.size - 1, chance.randrange(field.size)}:
                        yield Equation(field, terms, goal)


def plain_shares(equation, order):
    """All shares for a multiple of the order, by trying."""
    found = []
    for share in itertools.product(range(1, order), repeat=len(equation.terms)):
        right = all(index * term[1] % order == 0 for index, term in zip(share, equation.terms))
        if right and (equation.goal != 0 or sum(share) % order == 0):
            found.append(share)
    return found


def plain_amount(equation, share, order):
    """The amount of a share, as [9.4] tells it."""
    field = equation.field

    def value(index, element):
        return Character(field, order, index % order).value_at(element)

    amount = Turn.whole(order, 1)
    for index, (factor, _) in zip(share, equation.terms):
        amount = amount.times(value(-index, factor))
    if equation.goal != 0:
        return amount.times(value(sum(share), equation.goal)).times(jacobi(field, order, share))
    amount = amount.scaled(field.size - 1).times(value(share[-1], field.opposite(1)))
    return amount.times(jacobi(field, order, share[:-1]))


class Equations(unittest.TestCase):
    def test_properties(self):
        for equation in some_equations(91):
            field, terms = equation.field, equation.terms
            again = Equation(field, terms, equation.goal)
            self.assertEqual(len(again), len(terms))
            shares = tuple(math.gcd(exponent, field.size - 1) for _, exponent in terms)
            self.assertEqual(equation.exponents, shares)
            self.assertEqual(equation.order, math.lcm(*shares))
            self.assertEqual((field.size - 1) % equation.order, 0)
            self.assertEqual(again, equation)

    def test_left_sides_and_solutions(self):
        for equation in some_equations(92, tuples=170):
            field = equation.field
            for found in itertools.product(field, repeat=len(equation)):
                told = value_at(field, equation.terms, found)
                self.assertEqual(equation.left_at(found), told)
                self.assertIs(equation.is_solution(found), told == equation.goal)

    def test_great_exponents(self):
        field = Field(509)
        equation = Equation(field, ((508, 1000), (1, 999)), 7)
        for found in ((0, 0), (1, 1), (508, 507), (2, 300)):
            self.assertEqual(equation.left_at(found), (508 * found[0] ** 1000 + found[1] ** 999) % 509)
        self.assertEqual((equation.exponents, equation.order), ((4, 1), 4))

    def test_any_value_is_judged(self):
        circle, cubes = Equation(Field(7), ((1, 2), (1, 2)), 1), Equation(Field(7), ((1, 3),), 0)
        for value in all_kinds() + [(0, 1), (0, 6), (0, True), (False, 1), [0, 1], (0, 1, 0), (0, 8), (0,), "01"]:
            whole = type(value) is tuple and all(plain_integer(element) and 0 <= element < 7 for element in value)
            told = whole and len(value) == 2 and (value[0] ** 2 + value[1] ** 2) % 7 == 1
            self.assertIs(circle.is_solution(value), told)
            told = whole and len(value) == 1 and value[0] ** 3 % 7 == 0
            self.assertIs(cubes.is_solution(value), told)

    def test_other_goals_and_factors(self):
        for equation in some_equations(93, most=3):
            field = equation.field
            for element in field:
                self.assertEqual(equation.with_goal(element), Equation(field, equation.terms, element))
                if element != 0:
                    scaled = equation.scaled(element)
                    terms = tuple((field.times(factor, element), exponent) for factor, exponent in equation.terms)
                    self.assertEqual(scaled, Equation(field, terms, field.times(equation.goal, element)))
                    self.assertEqual(count_by_classes(scaled), count_by_classes(equation))

    def test_texts(self):
        seven = Field(7)
        told = {
            (((1, 3), (2, 2)), 5): "1*x^3 + 2*y^2 = 5 over 7",
            (((6, 1000),), 0): "6*x^1000 = 0 over 7",
            (((1, 1), (2, 2), (3, 3), (4, 4), (5, 5), (6, 6)), 1):
                "1*x^1 + 2*y^2 + 3*z^3 + 4*u^4 + 5*v^5 + 6*w^6 = 1 over 7",
        }
        for (terms, goal), text in told.items():
            self.assertEqual(str(Equation(seven, terms, goal)), text)
        self.assertEqual(str(Equation(Field(3, 2), ((8, 4),), 8)), "8*x^4 = 8 over 9")

    def test_equality(self):
        told = [
            (field, terms, goal) for field in (Field(2), Field(3), Field(2, 2))
            for terms in (((1, 1),), ((1, 2),), ((1, 1), (1, 1)), ((1, 1), (1, 2)), ((1, 2), (1, 1))) for goal in (0, 1)
        ]
        for at, one in enumerate(told):
            for to, other in enumerate(told):
                self.assertIs(Equation(*one) == Equation(*other), at == to)
                self.assertIs(Equation(*one) != Equation(*other), at != to)
        cubes = Equation(Field(7), ((1, 3), (1, 3)), 1)
        for value in all_kinds():
            same = isinstance(value, Equation) and str(value) == str(cubes)
            self.assertIs(cubes == value, same)
            self.assertIs(cubes != value, not same)
        # Equal share exponents do not make equations equal.
        self.assertNotEqual(Equation(Field(7), ((1, 9), (1, 3)), 1), cubes)

    def test_an_equation_never_changes(self):
        equation = Equation(Field(7), ((1, 3), (1, 3)), 1)
        for name in ("field", "terms", "goal", "exponents", "order"):
            with self.assertRaises(AttributeError):
                setattr(equation, name, 0)
        self.assertRaises(TypeError, iter, equation)


class Solutions(unittest.TestCase):
    def test_by_trying(self):
        for equation in some_equations(94, tuples=1400):
            field = equation.field
            told = [
                found for found in itertools.product(range(field.size), repeat=len(equation))
                if equation.left_at(found) == equation.goal
            ]
            self.assertEqual(list(solutions(equation)), told)
            self.assertEqual(count_plainly(equation), len(told))
            self.assertEqual(count_by_classes(equation), len(told))
            if equation.order <= 24:
                self.assertEqual(count_by_sums(equation), len(told))

    def test_edges_of_what_is_tried(self):
        for field, many, right in (
            (Field(139), 2, True), (Field(3, 3), 3, True), (Field(11), 4, True), (Field(7), 5, True), (Field(5), 6, True),
            (Field(149), 2, False), (Field(29), 3, False), (Field(13), 4, False), (Field(2, 3), 5, False),
            (Field(7), 6, False), (Field(509), 1, True), (Field(2), 6, True),
        ):
            self.assertIs(field.size ** many <= 20000, right)
            equation = Equation(field, ((1, 2),) * many, 1)
            if right:
                self.assertEqual(count_plainly(equation), count_by_classes(equation))
            else:
                assert_raises(self, TooMany, 20000, count_plainly, equation)
                assert_raises(self, TooMany, 20000, next, solutions(equation))

    def test_one_by_one(self):
        circle = Equation(Field(7), ((1, 2), (1, 2)), 1)
        steps = solutions(circle)
        self.assertTrue(inspect.isgenerator(steps))
        self.assertIs(iter(steps), steps)
        self.assertEqual([next(steps), next(steps), next(steps)], [(0, 1), (0, 6), (1, 0)])
        self.assertEqual(next(solutions(circle)), (0, 1))
        self.assertEqual(len(list(steps)), 5)
        self.assertIsNone(next(steps, None))
        # The first of very many solutions is there before the others are.
        many = Equation(Field(5), ((1, 1),) * 6, 0)
        self.assertEqual([next(solutions(many)) for _ in range(500)], [(0,) * 6] * 500)

    def test_errors_come_with_the_first_result(self):
        for value in all_kinds():
            if not isinstance(value, Equation):
                steps = solutions(value)
                assert_raises(self, InvalidEquation, None, next, steps)
        steps = solutions(Equation(Field(509), ((1, 2),) * 2, 1))
        assert_raises(self, TooMany, 20000, next, steps)

    def test_share_exponents_tell_as_much(self):
        chance = random.Random(95)
        for field in FIELDS:
            for many in (1, 2, 3):
                terms = some_terms(chance, field, many, range(1, 1001))
                other = tuple((factor, math.gcd(exponent, field.size - 1)) for factor, exponent in terms)
                self.assertEqual(counts_by_goal(field, terms), counts_by_goal(field, other))
                u = chance.randrange(1, field.size)
                factor, exponent = terms[0]
                moved = ((field.times(factor, field.raised(u, exponent)), exponent),) + terms[1:]
                self.assertEqual(counts_by_goal(field, moved), counts_by_goal(field, terms))


class Counts(unittest.TestCase):
    def test_by_goal(self):
        chance = random.Random(96)
        for field in FIELDS + [Field(73), Field(7, 2), Field(2, 6)]:
            for many in (1, 2, 3, 6):
                terms = some_terms(chance, field, many, list(range(1, 10)) + [1000, field.size - 1 or 1])
                told = all_counts(field, terms)
                self.assertEqual(counts_by_goal(field, terms), told)
                self.assertEqual(sum(told), field.size ** many)
                for goal in {0, 1, field.size - 1, chance.randrange(field.size)}:
                    self.assertEqual(count_by_classes(Equation(field, terms, goal)), told[goal])

    def test_great_orders(self):
        field = Field(2, 9)
        for terms in (((1, 511), (5, 511)), ((1, 7), (3, 73)), ((400, 511),), ((1, 1), (9, 511))):
            told = all_counts(field, terms)
            self.assertEqual(counts_by_goal(field, terms), told)
            for goal in (0, 1, 77, 511):
                equation = Equation(field, terms, goal)
                self.assertEqual(equation.order, 511)
                self.assertEqual(count_by_classes(equation), told[goal])
                assert_raises(self, TooMany, 24, count_by_sums, equation)
                assert_raises(self, TooMany, 24, shares_of, equation)

    def test_by_sums(self):
        chance = random.Random(97)
        for field in FIELDS + [Field(73), Field(7, 2), Field(2, 6), Field(241), Field(509), Field(3, 5)]:
            for many in range(1, 7):
                for _ in range(2):
                    terms = some_terms(chance, field, many, (1, 2, 3, 4, 6))
                    for goal in (0, chance.randrange(1, field.size)):
                        equation = Equation(field, terms, goal)
                        if equation.order <= 24:
                            self.assertEqual(count_by_sums(equation), count_by_classes(equation))

    def test_by_amounts(self):
        for equation in some_equations(98, most=4, tuples=700):
            if equation.order <= 12:
                order, size = equation.order, equation.field.size
                shares = shares_of(equation)
                self.assertIs(type(shares), tuple)
                self.assertEqual(list(shares), plain_shares(equation, order))
                total = Turn.whole(order, size ** (len(equation) - 1))
                for share in shares:
                    amount = amount_of(equation, share)
                    self.assertEqual(amount, plain_amount(equation, share, order))
                    total = total.plus(amount)
                self.assertEqual(total, Turn.whole(order, count_by_sums(equation)))

    def test_by_amounts_of_a_multiple(self):
        for field, terms, order in (
            (Field(13), ((1, 3), (2, 3)), 6), (Field(13), ((1, 2), (5, 2)), 4), (Field(3, 2), ((1, 2), (4, 2)), 8),
        ):
            for goal in field:
                equation = Equation(field, terms, goal)
                total = Turn.whole(order, field.size ** (len(terms) - 1))
                for share in plain_shares(equation, order):
                    total = total.plus(plain_amount(equation, share, order))
                self.assertEqual(total, Turn.whole(order, count_by_sums(equation)))

    def test_numbers_of_shares(self):
        twenty_five, eleven = Field(5, 2), Field(11)
        # 23 ** 3 is 12167, 9 ** 4 * 3 is 19683; 19 ** 3 * 3 is 20577.
        equation = Equation(twenty_five, ((1, 24),) * 3, 1)
        self.assertEqual(len(shares_of(equation)), 12167)
        self.assertEqual(count_by_sums(equation), count_by_classes(equation))
        equation = Equation(Field(41), ((1, 10),) * 4 + ((3, 4),), 40)
        self.assertEqual(len(shares_of(equation)), 19683)
        self.assertEqual(count_by_sums(equation), count_by_classes(equation))
        for call in (shares_of, count_by_sums):
            assert_raises(self, TooMany, 20000, call, Equation(Field(41), ((1, 20),) * 3 + ((3, 4),), 40))
            assert_raises(self, TooMany, 20000, call, Equation(twenty_five, ((1, 24),) * 4, 1))
            assert_raises(self, TooMany, 20000, call, Equation(Field(11), ((1, 10),) * 5, 1))
            assert_raises(self, TooMany, 20000, call, Equation(Field(73), ((1, 24),) * 6, 0))
        self.assertEqual(len(shares_of(Equation(eleven, ((1, 10),) * 4, 10))), 6561)
        # With the goal 0 there are fewer: these have sums that the order divides.
        for many, told in ((2, 9), (3, 72), (4, 657), (5, 5904)):
            equation = Equation(eleven, ((1, 10),) * many, 0)
            self.assertEqual(len(shares_of(equation)), told)
            self.assertEqual(count_by_sums(equation), count_by_classes(equation))
        assert_raises(self, TooMany, 20000, shares_of, Equation(eleven, ((1, 10),) * 6, 0))

    def test_few_shares(self):
        self.assertEqual(shares_of(Equation(Field(7), ((1, 5), (1, 2)), 3)), ())
        self.assertEqual(shares_of(Equation(Field(2), ((1, 3),) * 6, 1)), ())
        self.assertEqual(shares_of(Equation(Field(7), ((1, 3),), 0)), ())
        self.assertEqual(shares_of(Equation(Field(7), ((1, 3),), 1)), ((1,), (2,)))
        self.assertEqual(shares_of(Equation(Field(7), ((1, 2), (1, 3)), 1)), ((3, 2), (3, 4)))
        self.assertEqual([count_by_sums(Equation(Field(7), ((3, 6),), goal)) for goal in range(7)], [1, 0, 0, 6, 0, 0, 0])
        self.assertEqual([count_by_sums(Equation(Field(2), ((1, 3),) * 6, goal)) for goal in (0, 1)], [32, 32])

    def test_no_shares_are_refused(self):
        equation = Equation(Field(13), ((1, 3), (1, 4)), 1)
        self.assertEqual(equation.order, 12)
        right = shares_of(equation)
        self.assertEqual(right, tuple(itertools.product((4, 8), (3, 6, 9))))
        for share in itertools.product(range(-1, 14), repeat=2):
            if share not in right:
                assert_raises(self, InvalidPaper, None, amount_of, equation, share)
        for share in ([4, 3], (4,), (4, 3, 3), (4, True), None, 4, ((4, 3),), (16, 3), (4, 10 ** 60), "43"):
            assert_raises(self, InvalidPaper, None, amount_of, equation, share)
        zero = equation.with_goal(0)
        for share in right:
            assert_raises(self, InvalidPaper, None, amount_of, zero, share)
        cubes = Equation(Field(7), ((1, 3), (1, 3)), 0)
        self.assertEqual(shares_of(cubes), ((1, 2), (2, 1)))
        assert_raises(self, InvalidPaper, None, amount_of, cubes, (1, 1))

    def test_shares_of_great_orders(self):
        equation = Equation(Field(2, 9), ((1, 511),), 1)
        assert_raises(self, InvalidPaper, None, amount_of, equation, (0,))
        assert_raises(self, InvalidPaper, None, amount_of, equation, (511,))
        assert_raises(self, TooMany, 24, amount_of, equation, (1,))
        assert_raises(self, InvalidEquation, None, amount_of, None, (0,))

    def test_bounds(self):
        for equation in some_equations(99):
            if equation.goal != 0:
                q, s = equation.field.size, len(equation)
                product = math.prod(share - 1 for share in equation.exponents)
                difference = count_by_classes(equation) - q ** (s - 1)
                self.assertTrue(difference ** 2 <= product ** 2 * q ** (s - 1))

    def test_what_is_not_true(self):
        self.assertEqual(count_by_classes(Equation(Field(7), ((1, 3),), 2)), 0)
        self.assertEqual(count_by_classes(Equation(Field(7), ((1, 3), (1, 3)), 3)), 0)
        one, other = Equation(Field(7), ((1, 3), (1, 3)), 1), Equation(Field(7), ((1, 3), (2, 3)), 1)
        self.assertEqual((count_by_sums(one), count_by_sums(other)), (6, 12))


class Powers(unittest.TestCase):
    def sums_of(self, field, number, most):
        """The list of the sets of sums of 1, 2, .. powers, until they stay equal or there are so many."""
        powers = {field.raised(element, number) for element in field}
        found = [powers]
        while len(found) < most:
            more = {field.plus(one, other) for one in found[-1] for other in powers}
            if more == found[-1]:
                break
            found.append(more)
        return found

    def test_by_adding_powers(self):
        for field in FIELDS + [Field(31), Field(3, 3), Field(2, 6), Field(7, 2)]:
            for number in list(range(1, 13)) + [15, 21, 24, 30, 48, 63, 1000, field.size - 1 or 1]:
                sums = self.sums_of(field, number, 100)
                whole = len(sums[-1]) == field.size
                lesser = [part for part in range(1, field.degree + 1)
                          if field.degree % part == 0 and set(field.lesser(part)) == sums[-1]]
                self.assertEqual([reach_of(field, number)], lesser)
                self.assertEqual(least_number(field, number), len(sums) if whole else None)
                for many in (1, 2, 3, len(sums), 60):
                    told = tuple(sorted(sums[min(many, len(sums)) - 1]))
                    self.assertEqual(power_sums(field, number, many), told)

    def test_reaches(self):
        for field in (Field(2, 9), Field(2, 8), Field(3, 5), Field(3, 4), Field(17, 2), Field(509), Field(2)):
            for number in range(1, 1001, 7):
                share = math.gcd(number, field.size - 1)
                told = [part for part in range(1, field.degree + 1) if field.degree % part == 0
                        and share % ((field.size - 1) // (field.prime ** part - 1)) == 0]
                self.assertEqual(reach_of(field, number), told[0])
                self.assertIs(least_number(field, number) is None, told[0] < field.degree)

    def test_edges(self):
        self.assertEqual([least_number(Field(509), 508), least_number(Field(2), 1), least_number(Field(2), 1000)],
                         [508, 1, 1])
        self.assertEqual(power_sums(Field(509), 508, 60), tuple(range(61)))
        self.assertEqual(power_sums(Field(509), 508, 1), (0, 1))
        self.assertEqual(power_sums(Field(3, 2), 4, 60), (0, 1, 2))
        self.assertEqual(power_sums(Field(2, 9), 511, 60), (0, 1))
        self.assertEqual(least_number(Field(2, 9), 1), 1)


if __name__ == "__main__":
    unittest.main()
