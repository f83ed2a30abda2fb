"""Symbols: [0.20] and [15.1] to [15.5], held against powers modulo primes, place by place, and against both symbols."""

import itertools
import math
import random
import unittest

from carryturns.field.fields import Field
from carryturns.ideal.ideals import ideal_of, places_in
from carryturns.mutual.symbols import differ_by, is_near_one, is_odd, near_power, primes_in, symbol_over
from carryturns.total.totals import jacobi
from carryturns.turn.turns import Turn
from tests import plain_places, plain_turns
from tests.support import raised_by

ORDERS = (3, 4, 5, 7)


def drawn(order, chance, most=9):
    """Any turn number."""
    return Turn(order, tuple(chance.randint(-most, most) for _ in plain_turns.units(order)))


def drawn_odd(order, chance, most=9):
    """Any odd turn number."""
    while True:
        turn = drawn(order, chance, most)
        if math.gcd(turn.norm(), order) == 1:
            return turn


def drawn_near(order, chance, most=9):
    """Any turn number near one."""
    turn = drawn_odd(order, chance, most)
    return turn.times(Turn.power(order, near_power(turn)))


def prime_divisors(number):
    """The prime divisors, by trying all integers."""
    found, number, divisor = [], abs(number), 2
    while number > 1:
        if divisor * divisor > number:
            divisor = number
        if number % divisor == 0:
            found.append(divisor)
            while number % divisor == 0:
                number //= divisor
        divisor += 1
    return found


def value_at(entries, root, modulus):
    """What a turn number is modulo an integer, if a residue is put for z."""
    return sum(entry * pow(root, at, modulus) for at, entry in enumerate(entries)) % modulus


def roots_of(order, prime, many):
    """The roots of the cyclotomic polynomial modulo the prime to the power many, for a prime leaving 1."""
    modulus = prime ** many
    for base in range(2, 100):
        # Lifted roots of one are powers with the exponent of the residues that are no multiples of the prime.
        root = pow(base, (prime - 1) // order * prime ** (many - 1), modulus)
        if all(pow(root, order // step, modulus) % prime != 1 for step in (2, 3, 5, 7) if order % step == 0):
            return [pow(root, unit, modulus) for unit in plain_turns.units(order)]


def symbol_at_root(order, prime, one, other, at):
    """The symbol at a place with a root, as often as the other one is there; None if one leaves 0."""
    many = 0
    while value_at(other, roots_of(order, prime, many + 1)[at], prime ** (many + 1)) == 0:
        many += 1
    root = roots_of(order, prime, 1)[at]
    left = pow(value_at(one, root, prime), (prime - 1) // order, prime)
    if many == 0:
        return 0
    return many * [pow(root, k, prime) for k in range(order)].index(left) if left else None


def symbol_at_poly(order, prime, one, other, poly):
    """The symbol at a place of a prime that does not leave 1."""
    many = plain_places.times_of(order, prime, poly, other)
    if many == 0:
        return 0
    told = plain_places.symbol(order, prime, poly, one)
    return None if told is None else many * told


def plain_symbol(one, other):
    """The symbol, place by place."""
    order, found = one.order, []
    for prime in prime_divisors(plain_turns.norm(order, other.entries)):
        if prime % order == 1:
            many = len(plain_turns.units(order))
            found += [symbol_at_root(order, prime, one.entries, other.entries, at) for at in range(many)]
        else:
            polys = plain_places.factors(order, prime)
            found += [symbol_at_poly(order, prime, one.entries, other.entries, poly) for poly in polys]
    return None if None in found else sum(found) % order


def is_plain_enough(order, norm):
    """Whether places over all primes that do not leave 1 are found by trying."""
    return all(prime % order == 1 or prime ** plain_places.degree_of(order, prime) < 3000 for prime in prime_divisors(norm))


class Symbols(unittest.TestCase):
    def test_place_by_place(self):
        chance = random.Random(151)
        seen = {order: set() for order in ORDERS}
        for order in ORDERS:
            for most in (2, 5, 30, 100):
                for _ in range(25):
                    one, other = drawn(order, chance, most), drawn_odd(order, chance, most)
                    if abs(other.norm()) <= 10 ** 12 and is_plain_enough(order, other.norm()):
                        told = plain_symbol(one, other)
                        self.assertEqual(symbol_over(one, other), told, (str(one), str(other)))
                        seen[order].add(told)
            self.assertEqual(seen[order], {None} | set(range(order)))

    def test_places_that_are_there_many_times(self):
        chance = random.Random(152)
        for order in ORDERS:
            for _ in range(12):
                first, second = drawn_odd(order, chance, 2), drawn_odd(order, chance, 1)
                other = first.raised(2).times(second).times(second.turned(-1))
                one = drawn(order, chance)
                if abs(other.norm()) <= 10 ** 12 and is_plain_enough(order, other.norm()):
                    self.assertEqual(symbol_over(one, other), plain_symbol(one, other))

    def test_by_the_places_of_the_ideal(self):
        chance = random.Random(153)
        for order in ORDERS:
            for _ in range(20):
                one, other = drawn(order, chance), drawn_odd(order, chance, 6)
                if raised_by(places_in, ideal_of(order, (other,))) is None:
                    told = [(many, place.symbol(one)) for place, many in places_in(ideal_of(order, (other,)))]
                    symbol = None if None in [symbol for _, symbol in told] else sum(many * symbol for many, symbol in told) % order
                    self.assertEqual(symbol_over(one, other), symbol)

    def test_great_norms(self):
        # The greatest prime below 10 ** 12 that leaves 1 modulo 12, squares of great primes, and two great primes.
        for order, entries in ((4, (993319, 115518)), (4, (999983, 0)), (3, (999983, 0)), (4, (1000, 999999)), (5, (999, 0, 0, 0)), (7, (99, 0, 0, 0, 0, 1))):
            other = Turn(order, entries)
            if math.gcd(other.norm(), order) == 1 and abs(other.norm()) <= 10 ** 12:
                root = Turn.power(order, 1)
                self.assertEqual(symbol_over(root, other), (abs(other.norm()) - 1) // order % order)
                self.assertEqual(symbol_over(other, other), None)
        for prime in (999961, 999983):
            for order in (3, 4):
                one, other = Turn(order, (5, 3)), Turn.whole(order, prime)
                if prime % order == 1:
                    self.assertEqual(symbol_over(one, other), plain_symbol(one, other))
                else:
                    self.assertEqual(symbol_over(Turn.whole(order, 2), other), 0)

    def test_units_have_no_places(self):
        chance = random.Random(154)
        for order in ORDERS:
            for many in range(order):
                for unit in (Turn.power(order, many), Turn.power(order, many).opposite()):
                    self.assertEqual(symbol_over(drawn(order, chance), unit), 0)
                    self.assertEqual(symbol_over(Turn.whole(order, 0), unit), 0)
        self.assertEqual(symbol_over(Turn(5, (3, 1, 0, 0)), Turn(5, (0, 1, 1, 0))), 0)

    def test_products_and_turning(self):
        chance = random.Random(155)
        for order in ORDERS:
            for _ in range(15):
                one, two, other, last = drawn(order, chance), drawn(order, chance), drawn_odd(order, chance, 3), drawn_odd(order, chance, 2)
                if abs(other.times(last).norm()) > 10 ** 12:
                    continue
                self.check_product(order, symbol_over(one.times(two), other), symbol_over(one, other), symbol_over(two, other))
                self.check_product(order, symbol_over(one, other.times(last)), symbol_over(one, other), symbol_over(one, last))
                for unit in plain_turns.units(order):
                    symbol = symbol_over(one, other)
                    told = None if symbol is None else unit * symbol % order
                    self.assertEqual(symbol_over(one.turned(unit), other.turned(unit)), told)
                told = (abs(other.norm()) - 1) // order % order
                self.assertEqual(symbol_over(Turn.power(order, 1), other), told)

    def check_product(self, order, symbol, first, second):
        self.assertEqual(symbol, None if None in (first, second) else (first + second) % order)

    def test_primes_in_norms(self):
        chance = random.Random(156)
        for order in ORDERS:
            for most in (3, 20, 500, 900000 if order < 5 else 700):
                norm = abs(drawn_odd(order, chance, most).norm())
                if norm <= 10 ** 12:
                    self.assertEqual(primes_in(norm, order), prime_divisors(norm))
        for norm, order in ((1, 3), (10009 * 10009, 4), (10009 * 10039, 3), (999983 ** 2, 3), (10037 * 99989, 4), (999999999989, 4)):
            self.assertEqual(primes_in(norm, order), prime_divisors(norm))


class NearOne(unittest.TestCase):
    def plain(self, turn):
        """Whether a turn number is odd and near one, word for word."""
        if math.gcd(plain_turns.norm(turn.order, turn.entries), turn.order) > 1:
            return False
        if turn.order == 4:
            first, second = turn.entries
            return second % 2 == 0 and (first + second - 1) % 4 == 0
        return sum(at * entry for at, entry in enumerate(turn.entries)) % turn.order == 0

    def test_all_small_ones(self):
        for order, most in ((3, 5), (4, 6), (5, 1), (7, 1)):
            width = len(plain_turns.units(order))
            for entries in list(itertools.product(range(-most, most + 1), repeat=width))[::1 if order < 7 else 5]:
                turn = Turn(order, entries)
                odd = math.gcd(plain_turns.norm(order, entries), order) == 1
                self.assertEqual((is_odd(turn), is_near_one(turn)), (odd, self.plain(turn)))
                if odd:
                    fits = [many for many in range(order) if self.plain(turn.times(Turn.power(order, many)))]
                    self.assertEqual([near_power(turn)], fits)

    def test_sums_j(self):
        for prime in (7, 13, 19, 31, 37, 43, 61, 73, 499):
            for order in ORDERS:
                if prime % order == 1:
                    field = Field(prime)
                    for a, b in itertools.product(range(1, order), repeat=2):
                        if (a + b) % order and order != 4:
                            self.assertTrue(is_near_one(jacobi(field, order, (a, b))))
                    if order == 4:
                        self.assertTrue(is_near_one(jacobi(field, 4, (1, 2)).opposite()))
        for field, order in ((Field(2, 4), 5), (Field(2, 3), 7), (Field(3, 4), 5), (Field(13, 2), 7)):
            for a, b in itertools.product(range(1, order), repeat=2):
                if (a + b) % order:
                    self.assertTrue(is_near_one(jacobi(field, order, (a, b))))


class Reciprocity(unittest.TestCase):
    def setUp(self):
        self.chance = random.Random(157)

    def pair(self, order):
        """Two turn numbers of which reciprocity tells something."""
        other = drawn_near(order, self.chance, 12 if order < 7 else 3)
        if order in (3, 4):
            return drawn_near(order, self.chance, 12), other
        return Turn.whole(order, self.chance.choice([number for number in range(-40, 41) if number % order])), other

    def test_laws(self):
        for order in ORDERS:
            told, some = set(), 0
            for _ in range(60):
                one, other = self.pair(order)
                differ = differ_by(one, other)
                self.assertIn(differ, (0, 2) if order == 4 else (0,))
                if max(abs(one.norm()), abs(other.norm())) <= 10 ** 12:
                    symbols = symbol_over(one, other), symbol_over(other, one)
                    self.assertEqual(symbols[0] is None, symbols[1] is None)
                    if symbols[0] is not None:
                        self.assertEqual((symbols[0] - symbols[1]) % order, differ)
                        told.add((symbols[0], differ))
                        some += 1
            self.assertTrue(some > 20 and len(told) >= order)

    def test_the_difference_of_the_order_4(self):
        for _ in range(40):
            one, other = self.pair(4)
            both_odd = (one.norm() - 1) // 4 % 2 == 1 and (other.norm() - 1) // 4 % 2 == 1
            self.assertEqual(differ_by(one, other), 2 if both_odd else 0)

    def test_a_place_in_common_is_let(self):
        self.assertEqual(differ_by(Turn(3, (2, 3)), Turn(3, (2, 3))), 0)
        self.assertEqual(differ_by(Turn(4, (3, 2)), Turn(4, (3, 2))), 2)
        self.assertEqual(differ_by(Turn.whole(5, 11), Turn.whole(5, 11)), 0)

    def test_what_is_not_true(self):
        one, other = Turn(4, (3, 2)), Turn(4, (-1, 2))
        self.assertNotEqual(symbol_over(one, other), symbol_over(other, one))
        # At each of the places over 7 the symbol of 2 is not 0, so that 2 is no third power modulo 7.
        symbols = [symbol_over(Turn.whole(3, 2), part) for part in (Turn(3, (3, 1)), Turn(3, (2, -1)))]
        self.assertEqual((symbol_over(Turn.whole(3, 2), Turn.whole(3, 7)), sorted(symbols)), (0, [1, 2]))


if __name__ == "__main__":
    unittest.main()
