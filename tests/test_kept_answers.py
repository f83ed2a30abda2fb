"""Answers that stay as they are: the inputs that take longest, with what an earlier way of reckoning told of them."""

import hashlib
import itertools
import unittest

from carryturns.above.lifts import count_above, count_parts, count_polynomial
from carryturns.above.towers import Tower
from carryturns.count.equations import Equation, count_by_classes, count_by_sums
from carryturns.field.fields import Field
from carryturns.total.totals import all_totals, jacobi, table_by_totals
from carryturns.table.tables import class_table

# The fields, the orders, and the digests of the entries of all sums J.
TOTALS = (
    ((11, 2), 24, "5d5a04dff04e86421d96a1094dff1f95"),
    ((73, 1), 24, "23c49c8af8b37822042902e482cd099c"),
    ((73, 1), 12, "21636f63884c44358b69189654db1df1"),
    ((47, 1), 23, "2200a9e2b5ec8aa5bf0726ea730efa42"),
    ((5, 2), 24, "2ddd2d07306f543f7ed8f128e2048d04"),
    ((61, 1), 20, "d487b2b9de2079f3cef41a52947b2b20"),
)

# The fields, the folds, the polynomials of the towers, and the digests of products, norms, traces and powers.
TOWERS = (
    ((2, 1), 12, (1, 0, 0, 0, 0, 0, 0, 0, 0, 1, 0, 0, 1), "0983e18896e4c755"),
    ((2, 2), 6, (1, 0, 0, 1, 1, 2, 1), "93896b0731174b83"),
    ((2, 6), 2, (1, 2, 1), "c921180252a49313"),
    ((61, 1), 2, (1, 5, 1), "5329ef8c7c9a514a"),
    ((2, 3), 4, (1, 0, 0, 1, 1), "918dbf0c8a3d59fe"),
    ((5, 1), 5, (1, 0, 0, 0, 4, 1), "b0d0a0633c10c8f8"),
    ((3, 1), 7, (1, 0, 0, 0, 0, 1, 2, 1), "47ba900ebbdc5807"),
    ((7, 1), 4, (1, 0, 0, 1, 1), "55bb3eca0645bc03"),
    ((2, 4), 3, (1, 0, 1, 1), "e5b569c02f79f68d"),
    ((13, 1), 3, (1, 0, 4, 1), "7b87aa3011c5fac1"),
    ((3, 2), 3, (1, 0, 2, 1), "e760e2aca409f2c2"),
    ((2, 1), 11, (1, 0, 0, 0, 0, 0, 0, 0, 0, 1, 0, 1), "f1b66722a2a9eb0e"),
    ((2, 1), 10, (1, 0, 0, 0, 0, 0, 0, 1, 0, 0, 1), "32cce6350b9d336e"),
    ((2, 1), 9, (1, 0, 0, 0, 0, 0, 0, 0, 1, 1), "cf28fdfc96aa49b8"),
    ((2, 1), 8, (1, 0, 0, 0, 1, 1, 0, 1, 1), "f89e2ad93408a73f"),
    ((2, 1), 7, (1, 0, 0, 0, 0, 0, 1, 1), "ee51e13805f726d0"),
    ((3, 1), 6, (1, 0, 0, 0, 1, 1, 1), "ea986dfed26a50f0"),
    ((2, 5), 2, (1, 1, 1), "7fba551c418195be"),
    ((7, 2), 2, (1, 8, 1), "4e10cf94ee7fd390"),
    ((2, 2), 5, (1, 0, 0, 0, 2, 1), "ebd110a79462ca34"),
    ((2, 2), 4, (1, 0, 1, 2, 1), "ac011656bc1f9bb7"),
    ((5, 1), 4, (1, 0, 1, 1, 1), "1524daf859e7cbff"),
)


def digest(value):
    """A short text that hardly any other value has."""
    return hashlib.sha256(repr(value).encode()).hexdigest()


class SumsJ(unittest.TestCase):
    def test_all_sums(self):
        for (prime, degree), order, told in TOTALS:
            field = Field(prime, degree)
            totals = all_totals(field, order)
            self.assertEqual(digest([[turn.entries for turn in row] for row in totals])[:32], told)
            self.assertEqual(table_by_totals(field, order, totals), class_table(field, order))
            for one, other in list(itertools.product(range(order), repeat=2))[::7]:
                self.assertEqual(totals[one][other], jacobi(field, order, (one, other)))

    def test_numbers_of_solutions(self):
        field = Field(73)
        for told, over, terms, goal in (
            (48, field, ((1, 24), (1, 24)), 1), (1, field, ((1, 24), (5, 24)), 0),
            (576, field, ((1, 24), (5, 12), (2, 8)), 3), (0, Field(5, 2), ((1, 24), (3, 24), (7, 24)), 2),
        ):
            equation = Equation(over, terms, goal)
            self.assertEqual((count_by_sums(equation), count_by_classes(equation)), (told, told))
        equation = Equation(field, ((1, 24), (1, 24)), 1)
        self.assertEqual([count_above(equation, many) for many in (1, 2, 12)], [48, 4656, 22902048054390466344432])

    def test_count_polynomials(self):
        equation = Equation(Field(13), ((1, 12), (1, 6)), 1)
        poly, parts = count_polynomial(equation), count_parts(equation)
        self.assertEqual((len(poly), poly[:9]), (56, (1, 5, 9, 141, 777, 1197, 8205, 68961, 182097)))
        self.assertEqual((digest(poly)[:32], digest(parts)[:32]), ("75b6b18e66ed2eaf722cac155fbe1226", "1f797a11f045beed6021c60236b7cad9"))
        more = count_polynomial(Equation(Field(61), ((1, 5), (2, 4), (7, 4)), 3))
        self.assertEqual(digest(more)[:32], "7c535a24187054ba71ba46b8359be25e")


class Towers(unittest.TestCase):
    def test_polynomials(self):
        for (prime, degree), many, poly, told in TOWERS:
            tower = Tower(Field(prime, degree), many)
            self.assertEqual(tower.poly, poly)
            members = list(tower.members())
            some = members[::max(1, len(members) // 40)]
            products = [[tower.times(one, other) for other in some] for one in some]
            rows = [[tower.norm_of(one), tower.trace_of(one), tower.raised(one, 77)] for one in some]
            self.assertEqual(digest(products + rows)[:16], told)

    def test_many_products_and_few(self):
        # After some hundreds of products an object reckons in another way.
        for (prime, degree), many, _, _ in TOWERS[::2]:
            tower, field = Tower(Field(prime, degree), many), Field(prime, degree)
            members = list(tower.members())
            some = members[::max(1, len(members) // 60)]
            for one in members:
                tower.times(one, one)
            for one, other in zip(some, some[7:]):
                new = Tower(field, many) if one == some[3] or one == some[0] else tower
                self.assertEqual(new.times(one, other), tower.times(one, other))
                for number in (0, 1, 2, 5, tower.size - 1, tower.size, 10 ** 60 - 1):
                    self.assertEqual(new.raised(one, number), tower.raised(one, number))
                told = [(kind.norm_of(one), kind.trace_of(one)) for kind in (new, tower)]
                self.assertEqual(told[0], told[1])


if __name__ == "__main__":
    unittest.main()
