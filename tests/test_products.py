"""Products of polynomials with integers, packed and not, held against products term by term."""

import random
import unittest

from carryturns.base.products import multiply_entries, multiply_packed
from carryturns.turn.turns import Turn
from tests import plain_turns


def most_of(one, other):
    """More than any entry of the product, and any opposite of one."""
    return max(map(abs, one)) * max(map(abs, other)) * len(one)


class Products(unittest.TestCase):
    def test_term_by_term(self):
        chance = random.Random(17)
        for width in (1, 2, 3, 8, 15, 16, 17, 40, 130):
            for most in (1, 2, 9, 255, 256, 10 ** 12, 10 ** 59, 10 ** 90):
                one = [chance.randint(-most, most) for _ in range(width)]
                other = tuple(chance.randint(-most, most) for _ in range(max(1, width - chance.randrange(4))))
                told = plain_turns.times(one, other)
                self.assertEqual(multiply_entries(one, other), told)
                self.assertEqual(multiply_entries(other, one), told)
                self.assertEqual(multiply_packed(one, other, most_of(one, other)), told)

    def test_the_greatest_entries(self):
        for width in (1, 5, 20, 64, 200):
            for most in (1, 3, 4, 15, 16, 2 ** 20, 2 ** 20 - 1):
                for one, other in (((most,), (most,)), ((-most,), (most,)), ((most, -most), (-most,)), ((0,), (most,)), ((0,), (0,))):
                    first, second = (one * width)[:width], (other * width)[:width]
                    told = plain_turns.times(first, second)
                    self.assertEqual(multiply_packed(first, second, most_of(first, second)), told)
                    self.assertEqual(multiply_entries(first, second), told)

    def test_great_turn_numbers(self):
        chance = random.Random(18)
        for order in (29, 37, 43, 53, 58, 59):
            width = len(plain_turns.units(order))
            for most in (1, 99, 10 ** 12, 10 ** 59):
                one, other = [tuple(chance.randint(-most, most) for _ in range(width)) for _ in range(2)]
                product = Turn(order, one).times(Turn(order, other))
                self.assertEqual(product.entries, plain_turns.product(order, one, other))


if __name__ == "__main__":
    unittest.main()
