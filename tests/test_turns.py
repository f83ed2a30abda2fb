"""Turn numbers: [0.11] and [4.1] to [4.6], held against plain reckoning."""

import math
import random
import unittest

from carryturns.errors import ParseError
from carryturns.turn.polys import LOWER_TERMS, WIDTHS
from carryturns.turn.turns import Turn, cyclotomic
from tests import plain_turns as plain
from tests.support import all_kinds, assert_raises

ORDERS = range(1, 61)
WIDTH = {order: len(plain.units(order)) for order in ORDERS}


def some_entries(chance, order, most=9):
    """Entries by chance."""
    return tuple(chance.randint(-most, most) for _ in range(WIDTH[order]))


def some_turns(chance, order, many, most=9):
    """Turn numbers by chance, with 0, 1, z and some with few entries among them."""
    width = WIDTH[order]
    found = [(0,) * width, (1,) + (0,) * (width - 1), (-1,) + (0,) * (width - 1), (0,) * (width - 1) + (-2,)]
    return [Turn(order, entries) for entries in found + [some_entries(chance, order, most) for _ in range(many)]]


class Polynomials(unittest.TestCase):
    def test_products_over_all_divisors(self):
        for order in ORDERS:
            poly = [1]
            for divisor in range(1, order + 1):
                if order % divisor == 0:
                    poly = plain.times(poly, cyclotomic(divisor))
            self.assertEqual(poly, [-1] + [0] * (order - 1) + [1])

    def test_forms(self):
        for order in ORDERS:
            poly = cyclotomic(order)
            self.assertIs(type(poly), tuple)
            self.assertEqual((len(poly), poly[-1]), (WIDTH[order] + 1, 1))
            self.assertEqual(poly, plain.cyclotomic(order))
        self.assertEqual([cyclotomic(1), cyclotomic(2), cyclotomic(7), cyclotomic(60)],
                         [(-1, 1), (1, 1), (1,) * 7, (1, 0, 1, 0, 0, 0, -1, 0, -1, 0, -1, 0, 0, 0, 1, 0, 1)])

    def test_the_written_ones(self):
        self.assertEqual((len(WIDTHS), len(LOWER_TERMS), WIDTHS[0], LOWER_TERMS[0]), (61, 61, 0, ()))
        for order in range(1, 61):
            poly = plain.cyclotomic(order)
            self.assertEqual(WIDTHS[order], len(plain.units(order)))
            self.assertEqual(LOWER_TERMS[order], tuple((at, entry) for at, entry in enumerate(poly[:-1]) if entry))


class Making(unittest.TestCase):
    def test_properties(self):
        for order in ORDERS:
            entries = tuple(range(WIDTH[order]))
            turn = Turn(order, entries)
            self.assertEqual((turn.order, turn.entries), (order, entries))
            self.assertIs(turn.is_zero, not any(entries))
            self.assertIs(Turn(order, (0,) * WIDTH[order]).is_zero, True)

    def test_longest_entries(self):
        turn = Turn(3, (10 ** 60 - 1, 1 - 10 ** 60))
        self.assertEqual(turn.entries, (10 ** 60 - 1, 1 - 10 ** 60))
        self.assertEqual(Turn.whole(1, 10 ** 60 - 1).entries, (10 ** 60 - 1,))

    def test_made_ones_may_be_longer(self):
        turn = Turn(4, (10 ** 60 - 1, 10 ** 59))
        long = turn.times(turn).plus(turn)
        self.assertTrue(abs(long.entries[0]) > 10 ** 118)
        self.assertEqual(long.minus(turn).divided(turn), turn)
        self.assertEqual(long.minus(long).is_zero, True)
        self.assertEqual(long.lifted(12).lowered(4), long)
        self.assertEqual(long.times(long).divided(long), long)
        self.assertEqual(long.norm(), plain.norm(4, long.entries))

    def test_a_turn_number_never_changes(self):
        turn = Turn(5, (1, 2, 0, -1))
        for name in ("order", "entries", "is_zero"):
            with self.assertRaises(AttributeError):
                setattr(turn, name, 1)
        calls = (
            lambda: turn.plus(turn), lambda: turn.times(turn), lambda: turn.norm(), lambda: turn.turned(3),
            lambda: turn.raised(60), lambda: turn.divided(turn), lambda: turn.lifted(20), lambda: turn.content(2),
        )
        for call in calls:
            self.assertEqual(call(), call())
            self.assertEqual((turn.order, turn.entries, str(turn)), (5, (1, 2, 0, -1), "1+2z-z^3 order 5"))
        self.assertRaises(TypeError, iter, turn)
        self.assertRaises(TypeError, len, turn)

    def test_powers_of_z(self):
        for order in ORDERS:
            for many in list(range(-order - 2, 2 * order + 2)) + [10 ** 60 - 1, 1 - 10 ** 60]:
                told = plain.entries_of(order, {many % order: 1})
                self.assertEqual(Turn.power(order, many).entries, told)
        self.assertEqual([Turn.power(1, -5).entries, Turn.power(2, 3).entries, Turn.power(2, -4).entries],
                         [(1,), (-1,), (1,)])

    def test_no_lesser_power_is_one(self):
        for order in ORDERS:
            ones = [many for many in range(1, order + 1) if Turn.power(order, many) == Turn.whole(order, 1)]
            self.assertEqual(ones, [order])

    def test_integers(self):
        for order in ORDERS:
            for number in (0, 1, -1, 77, 10 ** 60 - 1, 1 - 10 ** 60):
                self.assertEqual(Turn.whole(order, number).entries, (number,) + (0,) * (WIDTH[order] - 1))


class Reckoning(unittest.TestCase):
    def test_sums_and_products(self):
        chance = random.Random(41)
        for order in ORDERS:
            turns = some_turns(chance, order, 3)
            for one in turns:
                for other in turns:
                    pairs = list(zip(one.entries, other.entries))
                    self.assertEqual(one.plus(other).entries, tuple(first + second for first, second in pairs))
                    self.assertEqual(one.minus(other).entries, tuple(first - second for first, second in pairs))
                    product = plain.product(order, one.entries, other.entries)
                    self.assertEqual(one.times(other).entries, product)
                    self.assertEqual(one.times(other).order, order)
                    self.assertIs(one.times(other).is_zero, one.is_zero or other.is_zero)

    def test_all_products_of_powers(self):
        for order in ORDERS:
            powers = [Turn.power(order, many) for many in range(order)]
            for one in range(0, order, 1 + order // 9):
                for other in range(order):
                    self.assertEqual(powers[one].times(powers[other]), powers[(one + other) % order])

    def test_scaled_and_opposite(self):
        chance = random.Random(42)
        for order in ORDERS:
            for turn in some_turns(chance, order, 2):
                for number in (0, 1, -1, 12, 10 ** 60 - 1, 1 - 10 ** 60):
                    told = tuple(number * entry for entry in turn.entries)
                    self.assertEqual(turn.scaled(number).entries, told)
                    self.assertEqual(turn.scaled(number), turn.times(Turn.whole(order, number)))
                self.assertEqual(turn.opposite(), turn.scaled(-1))

    def test_powers(self):
        chance = random.Random(43)
        for order in ORDERS:
            turn = Turn(order, some_entries(chance, order, 3))
            power = (1,) + (0,) * (WIDTH[order] - 1)
            for many in range(61 if order < 13 else 8):
                self.assertEqual(turn.raised(many).entries, power)
                power = plain.product(order, power, turn.entries)
            self.assertEqual(Turn.whole(order, 0).raised(0), Turn.whole(order, 1))
            self.assertIs(Turn.whole(order, 0).raised(60).is_zero, True)
            self.assertEqual(Turn.power(order, 1).raised(60), Turn.power(order, 60))

    def test_turned(self):
        chance = random.Random(44)
        for order in ORDERS:
            one, other = Turn(order, some_entries(chance, order)), Turn(order, some_entries(chance, order))
            for unit in plain.units(order):
                turned = one.turned(unit)
                self.assertEqual(turned.entries, plain.turned(order, one.entries, unit))
                self.assertEqual(one.turned(unit - 7 * order), turned)
                self.assertEqual(one.turned(unit + order * 10 ** 55), turned)
                self.assertEqual(one.plus(other).turned(unit), turned.plus(other.turned(unit)))
                self.assertEqual(one.times(other).turned(unit), turned.times(other.turned(unit)))
            self.assertEqual(one.mirrored(), one.turned(-1))
            self.assertEqual(one.mirrored().mirrored(), one)

    def test_complex_values(self):
        chance = random.Random(45)
        for order in ORDERS:
            one, other = Turn(order, some_entries(chance, order, 3)), Turn(order, some_entries(chance, order, 3))
            value = plain.complex_value(order, one.entries)
            product = value * plain.complex_value(order, other.entries)
            self.assertAlmostEqual(abs(plain.complex_value(order, one.times(other).entries) - product), 0, 6)
            mirrored = plain.complex_value(order, one.mirrored().entries)
            self.assertAlmostEqual(abs(mirrored - value.conjugate()), 0, 6)

    def test_norms_and_traces(self):
        chance = random.Random(46)
        for order in ORDERS:
            for turn in some_turns(chance, order, 2):
                norm = plain.norm(order, turn.entries)
                self.assertEqual(turn.norm(), norm)
                self.assertEqual(turn.trace(), plain.trace(order, turn.entries))
                self.assertIs(turn.is_unit(), norm in (1, -1))
                self.assertIs(turn.is_zero, norm == 0)
                self.assertTrue(order < 3 or norm >= 0)

    def test_norms_of_products(self):
        chance = random.Random(47)
        for order in ORDERS:
            one, other = Turn(order, some_entries(chance, order)), Turn(order, some_entries(chance, order))
            self.assertEqual(one.times(other).norm(), one.norm() * other.norm())
            self.assertEqual(one.plus(other).trace(), one.trace() + other.trace())
            self.assertEqual(one.turned(plain.units(order)[-1]).norm(), one.norm())

    def test_norms_of_long_entries(self):
        for order in (1, 2, 3, 7, 24, 59, 60):
            turn = Turn(order, tuple(10 ** 59 + 7 ** at for at in range(WIDTH[order])))
            self.assertEqual(turn.norm(), plain.norm(order, turn.entries))

    def test_norms_of_one_less_z(self):
        for order in range(2, 61):
            primes = [prime for prime in range(2, order + 1)
                      if order % prime == 0 and all(prime % low for low in range(2, prime))]
            turn = Turn.whole(order, 1).minus(Turn.power(order, 1))
            self.assertEqual(turn.norm(), primes[0] if len(primes) == 1 else 1)
            self.assertIs(turn.is_unit(), len(primes) > 1)

    def test_units(self):
        for order in ORDERS:
            self.assertIs(Turn.power(order, 1).is_unit(), True)
            self.assertIs(Turn.whole(order, -1).is_unit(), True)
            self.assertIs(Turn.whole(order, 0).is_unit(), False)
            self.assertIs(Turn.whole(order, 2).is_unit(), False)

    def test_quotients(self):
        chance = random.Random(48)
        for order in ORDERS:
            one, other = Turn(order, some_entries(chance, order, 2)), Turn(order, some_entries(chance, order))
            if not one.is_zero:
                self.assertEqual(one.times(other).divided(one), other)
                norm = Turn.whole(order, 1).times(one).times(Turn(order, others_of(order, one.entries)))
                self.assertEqual(norm.divided(one).entries, others_of(order, one.entries))
                self.assertEqual(norm.entries[0], one.norm())
                self.assertIs(Turn.whole(order, 0).divided(one).is_zero, True)
                self.assertEqual(one.divided(one), Turn.whole(order, 1))
                if not one.is_unit():
                    product = one.times(other).plus(Turn.whole(order, 1))
                    self.assertIsNone(product.divided(one))
            self.assertEqual(one.divided(Turn.power(order, 7)), one.times(Turn.power(order, -7)))

    def test_all_small_quotients(self):
        for order in (1, 2, 3, 4, 5):
            steps = range(-2, 3) if order < 5 else range(0, 2)
            turns = [Turn(order, entries) for entries in tuples(steps, WIDTH[order])]
            for other in turns:
                for one in turns:
                    if not other.is_zero:
                        quotient = one.divided(other)
                        # A quotient is integral if and only if the norm divides the product with the others.
                        rest = plain.product(order, one.entries, others_of(order, other.entries))
                        whole = all(entry % plain.norm(order, other.entries) == 0 for entry in rest)
                        self.assertIs(quotient is not None, whole)
                        if whole:
                            self.assertEqual(quotient.times(other), one)

    def test_contents(self):
        for order in ORDERS:
            width = WIDTH[order]
            self.assertEqual(Turn(order, (8,) * width).content(2), 3)
            self.assertEqual(Turn(order, (8,) * width).content(3), 0)
            self.assertEqual(Turn(order, (-9,) + (0,) * (width - 1)).content(3), 2)
            self.assertEqual(Turn(order, (0,) * (width - 1) + (999999937,)).content(999999937), 1)
        self.assertEqual(Turn(5, (4, 8, 2, 16)).content(2), 1)
        self.assertEqual(Turn(4, (7 ** 40, 7 ** 41)).raised(9).content(7), 360)


def tuples(steps, width):
    """All tuples of so many of some integers."""
    found = [()]
    for _ in range(width):
        found = [entries + (step,) for entries in found for step in steps]
    return found


def others_of(order, entries):
    """The product of all turned ones but the first one."""
    found = (1,) + (0,) * (len(entries) - 1)
    for unit in plain.units(order):
        if unit != 1 % order:
            found = plain.product(order, found, plain.turned(order, entries, unit))
    return found


class Lifts(unittest.TestCase):
    def test_lifted(self):
        chance = random.Random(49)
        for order in ORDERS:
            turn = Turn(order, some_entries(chance, order, 4))
            value = plain.complex_value(order, turn.entries)
            for multiple in range(order, 61, order):
                lifted = turn.lifted(multiple)
                self.assertEqual(lifted.order, multiple)
                self.assertEqual(lifted.entries, plain.lifted(order, turn.entries, multiple))
                self.assertAlmostEqual(abs(plain.complex_value(multiple, lifted.entries) - value), 0, 6)
                self.assertEqual(lifted.norm(), turn.norm() ** (WIDTH[multiple] // WIDTH[order]))
                self.assertEqual(lifted.lowered(order), turn)
                self.assertEqual(lifted.lowered(order).order, order)

    def test_lifting_goes_along_with_products(self):
        one, other = Turn(6, (2, -3)), Turn(6, (1, 5))
        for multiple in range(6, 61, 6):
            self.assertEqual(one.times(other).lifted(multiple), one.lifted(multiple).times(other.lifted(multiple)))
        self.assertEqual(Turn.power(12, 5).lifted(60), Turn.power(60, 25))

    def test_lowered_ones_stay_when_they_are_turned(self):
        chance = random.Random(50)
        for order in ORDERS:
            for divisor in [low for low in range(1, order + 1) if order % low == 0]:
                for entries in [some_entries(chance, order, 1)] + [
                    Turn.power(order, many).entries for many in range(0, order, 1 + order // 7)
                ]:
                    fixed = all(
                        plain.turned(order, entries, unit) == entries
                        for unit in plain.units(order) if unit % divisor == 1 % divisor
                    )
                    lowered = Turn(order, entries).lowered(divisor)
                    self.assertIs(lowered is not None, fixed, (order, divisor, entries))
                    if fixed:
                        self.assertEqual((lowered.order, plain.lifted(divisor, lowered.entries, order)),
                                         (divisor, entries))

    def test_zero_and_one(self):
        for order in ORDERS:
            for divisor in [low for low in range(1, order + 1) if order % low == 0]:
                for number in (0, 1, -5):
                    self.assertEqual(Turn.whole(order, number).lowered(divisor), Turn.whole(divisor, number))
        self.assertEqual([Turn.power(2, 1).lowered(1).entries, Turn.power(6, 1).lowered(3).entries], [(-1,), (1, 1)])


class Judging(unittest.TestCase):
    def test_equality(self):
        turns = [Turn(order, entries) for order in (1, 2, 3, 4, 6) for entries in tuples((-1, 0, 1), WIDTH[order])]
        for at, one in enumerate(turns):
            for to, other in enumerate(turns):
                self.assertIs(one == Turn(other.order, other.entries), at == to)
                self.assertIs(one != Turn(other.order, other.entries), at != to)

    def test_any_value(self):
        for turn in (Turn(1, (0,)), Turn(1, (1,)), Turn(3, (-1, -3))):
            for value in all_kinds():
                told = isinstance(value, Turn) and (value.order, value.entries) == (turn.order, turn.entries)
                self.assertIs(turn == value, told)
                self.assertIs(turn != value, not told)
            self.assertIs(turn == turn.entries, False)
        self.assertIs(Turn(3, (1, 0)) == Turn(6, (1, 0)), False)

    def test_what_is_not_true(self):
        # The norm 1, and no power of z nor its opposite.
        turn = Turn(5, (1, 1, 0, 0))
        self.assertEqual(turn.norm(), 1)
        self.assertNotIn(turn, [Turn.power(5, many).scaled(sign) for many in range(5) for sign in (1, -1)])
        # Equal norms, and no quotient.
        one, other = Turn(4, (2, 1)), Turn(4, (2, -1))
        self.assertEqual((one.norm(), other.norm(), one.divided(other)), (5, 5, None))


class Texts(unittest.TestCase):
    def test_known_ones(self):
        told = {
            (1, (0,)): "0", (1, (-4,)): "-4", (2, (1,)): "1", (3, (0, 1)): "z", (3, (0, -1)): "-z", (3, (1, 1)): "1+z",
            (3, (-1, -3)): "-1-3z", (5, (0, 0, -1, 0)): "-z^2", (5, (0, 0, 2, -2)): "2z^2-2z^3",
            (5, (7, 0, 1, 0)): "7+z^2", (11, (0,) * 9 + (-10,)): "-10z^9", (11, (1, -1) + (0,) * 7 + (1,)): "1-z+z^9",
            (59, (0,) * 57 + (1,)): "z^57",
        }
        for (order, entries), text in told.items():
            self.assertEqual(str(Turn(order, entries)), f"{text} order {order}")
            self.assertEqual(Turn.read(f"{text} order {order}"), Turn(order, entries))

    def test_each_text_is_read(self):
        chance = random.Random(51)
        for order in ORDERS:
            for turn in some_turns(chance, order, 2, 2) + some_turns(chance, order, 2, 10 ** 60 - 1):
                read = Turn.read(str(turn))
                self.assertEqual((read.order, read.entries), (order, turn.entries))

    def test_longest_integers(self):
        most = 10 ** 60 - 1
        self.assertEqual(Turn.read(f"-{most}+{most}z order 3").entries, (-most, most))
        for text in (f"{most + 1} order 3", f"-{most + 1} order 3", f"{most + 1}z order 3", f"1-{most + 1}z order 3",
                     "9" * 3900 + " order 1", "z^" + "1" * 70 + " order 5", "1 order " + "5" * 70):
            assert_raises(self, ParseError, 0, Turn.read, text)
        long = Turn(3, (10 ** 60 - 1, 1)).raised(2)
        assert_raises(self, ParseError, 0, Turn.read, str(long))

    def test_near_texts(self):
        near = (
            "", " ", "0", "1", "z", "order 5", " order 5", "0 order", "0 order ", "0order 5", "0 order5", "0  order 5",
            "0 order  5", "0 order 5 ", " 0 order 5", "0 order 5\n", "\n0 order 5", "0 order 05", "0 order 0",
            "0 order 61", "0 order -5", "0 order +5", "0 order five", "0 order 5 order 5", "0 Order 5", "00 order 5",
            "+0 order 5", "-0 order 5", "+1 order 5", "01 order 5", "1z order 5", "-1z order 5", "1+1z order 5",
            "0z order 5", "1+0z order 5", "0+z order 5", "z^1 order 5", "z^0 order 5", "1z^2 order 5", "z^02 order 5",
            "z^4 order 5", "z^5 order 5", "z^-1 order 5", "z^ order 5", "z2 order 5", "z^^2 order 5", "zz order 5",
            "z*z order 5", "2*z order 5", "2 z order 5", "1 + z order 5", "1+ z order 5", "z+1 order 5",
            "z^2+z order 5", "z+z order 5", "1+1 order 5", "1++z order 5", "1+-z order 5", "1-+z order 5",
            "--1 order 5", "1- order 5", "1+ order 5", "- order 5", "+ order 5", "+z order 5", "1+z- order 5",
            "Z order 5", "x order 5", "1.0 order 5", "1e3 order 5", "0x1 order 5", "1_0 order 5", "1,0 order 5",
            "(1, 2) order 5", "z order 1", "z order 2", "1+z order 2", "z^2 order 3", "z^2 order 4", "1-z^3 order 12 ",
            "z^4 order 12", "1+2z-z^3 order 5.", "1+2z-z^3 order 5" * 2, "~" * 4000, "-" * 4000, "+" * 4000,
        )
        for text in near:
            assert_raises(self, ParseError, 0, Turn.read, text)

    def test_one_sign_more_or_less(self):
        text = "1+2z-z^3 order 5"
        texts = [text[:at] + text[at + 1:] for at in range(len(text))]
        texts += [text[:at] + sign + text[at:] for at in range(len(text) + 1) for sign in " +-^z0123456789o"]
        read = 0
        for other in texts:
            try:
                turn = Turn.read(other)
            except ParseError as error:
                self.assertEqual(error.spot, 0)
            else:
                read += 1
                self.assertEqual(str(turn), other)
        self.assertTrue(0 < read < len(texts))

    def test_any_value(self):
        for value in all_kinds():
            assert_raises(self, ParseError, 0, Turn.read, value)

    def test_long_numbers(self):
        for number in (10 ** 60 - 1, 7 ** 40, 10 ** 59 + 3, 2):
            for many in (1, 2, 3, 30, 60):
                told = number ** many
                self.assertEqual(str(Turn(1, (number,)).raised(many)), f"{told} order 1")
                self.assertEqual(str(Turn(3, (0, -number)).raised(3).scaled(told % 997)), f"-{number ** 3 * (told % 997)} order 3")


if __name__ == "__main__":
    unittest.main()
