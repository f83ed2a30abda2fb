"""Towers: [10.1] and [10.2], held against plain reckoning with polynomials."""

import inspect
import itertools
import random
import unittest

from carryturns.above.towers import Tower
from carryturns.field.fields import Field
from tests import plain_towers
from tests.support import all_kinds, plain_integer

# Fields with a prime and a degree, and the folds that are tried.
SMALL = (
    ((2, 1), (1, 2, 3, 4, 5, 6)), ((3, 1), (1, 2, 3, 4)), ((2, 2), (1, 2, 3)), ((5, 1), (1, 2, 3)), ((7, 1), (1, 2)),
    ((2, 3), (1, 2)), ((3, 2), (1, 2)), ((11, 1), (1, 2)), ((13, 1), (1, 2)),
)
GREAT = (((2, 1), (9, 11, 12)), ((3, 1), (6, 7)), ((2, 2), (5, 6)), ((5, 1), (5,)), ((2, 4), (3,)), ((2, 6), (2,)),
         ((61, 1), (2,)), ((7, 2), (2,)), ((509, 1), (1,)), ((2, 9), (1,)))


def towers(told):
    """All towers over some fields."""
    return [Tower(Field(*field), many) for field, folds in told for many in folds]


class Making(unittest.TestCase):
    def test_properties(self):
        for told in (SMALL, GREAT):
            for field, folds in told:
                for many in folds:
                    tower = Tower(Field(*field), many)
                    size = Field(*field).size
                    self.assertEqual((tower.field, tower.fold, tower.size), (Field(*field), many, size ** many))
                    self.assertEqual(len(tower), many)
                    self.assertEqual(str(tower), f"tower of {many} over {size}")

    def test_polynomials_by_all_products(self):
        for tower in towers(SMALL):
            self.assertIs(type(tower.poly), tuple)
            self.assertEqual(tower.poly, plain_towers.least_poly(tower.field, tower.fold))
        self.assertEqual(Tower(Field(2), 8).poly, plain_towers.least_poly(Field(2), 8))
        self.assertEqual(Tower(Field(17), 2).poly, plain_towers.least_poly(Field(17), 2))

    def test_polynomials_of_great_towers(self):
        for tower in towers(GREAT):
            field, poly = tower.field, tower.poly
            self.assertEqual((len(poly), poly[-1]), (tower.fold + 1, 1))
            lower = [row for degree in range(1, tower.fold // 2 + 1) for row in plain_towers.monic_rows(field, degree)]
            for row in lower:
                self.assertTrue(any(plain_towers.rest(field, poly, row)))
            # Each lesser one is a product.
            for row in plain_towers.monic_rows(field, tower.fold):
                if row == poly:
                    break
                if row[0] != 0:
                    self.assertFalse(all(any(plain_towers.rest(field, row, low)) for low in lower), row)

    def test_known_ones(self):
        self.assertEqual([Tower(Field(509), 1).poly, Tower(Field(2), 2).poly, Tower(Field(2), 3).poly],
                         [(0, 1), (1, 1, 1), (1, 0, 1, 1)])
        self.assertEqual([Tower(Field(3), 2).poly, Tower(Field(5), 2).poly], [(1, 0, 1), (1, 1, 1)])

    def test_members(self):
        for tower in towers(SMALL + GREAT[:3]):
            told = list(itertools.product(range(tower.field.size), repeat=tower.fold))
            self.assertEqual(list(tower.members()), told)
        steps = Tower(Field(2), 12).members()
        self.assertTrue(inspect.isgenerator(steps))
        self.assertEqual([next(steps), next(steps)], [(0,) * 12, (0,) * 11 + (1,)])

    def test_embedded(self):
        for tower in towers(SMALL):
            for code in tower.field:
                self.assertEqual(tower.embedded(code), (code,) + (0,) * (tower.fold - 1))
                for other in tower.field:
                    one, two = tower.embedded(code), tower.embedded(other)
                    self.assertEqual(tower.plus(one, two), tower.embedded(tower.field.plus(code, other)))
                    self.assertEqual(tower.times(one, two), tower.embedded(tower.field.times(code, other)))

    def test_equality(self):
        told = [(Field(*field), many) for field, folds in SMALL for many in folds]
        for at, one in enumerate(told):
            for to, other in enumerate(told):
                self.assertIs(Tower(*one) == Tower(*other), at == to)
                self.assertIs(Tower(*one) != Tower(*other), at != to)
        for value in all_kinds():
            same = isinstance(value, Tower) and (value.field.size, value.fold) == (7, 2)
            self.assertIs(Tower(Field(7), 2) == value, same)
            self.assertIs(Tower(Field(7), 2) != value, not same)

    def test_a_tower_never_changes(self):
        tower = Tower(Field(7), 2)
        for name in ("field", "fold", "size", "poly"):
            with self.assertRaises(AttributeError):
                setattr(tower, name, 0)
        self.assertRaises(TypeError, iter, tower)
        self.assertTrue(all(plain_integer(entry) for entry in tower.poly))


class Reckoning(unittest.TestCase):
    def check_pair(self, tower, plain, one, other):
        self.assertEqual(tower.plus(one, other), plain.plus(one, other))
        self.assertEqual(tower.times(one, other), plain.times(one, other))

    def test_small_towers(self):
        for tower in towers(SMALL):
            plain = plain_towers.PlainTower(tower.field, tower.fold, tower.poly)
            step = 1 + len(plain.members) // 14
            for one in plain.members[::step] + plain.members[:3]:
                for other in plain.members[::step] + plain.members[-2:]:
                    self.check_pair(tower, plain, one, other)

    def test_great_towers(self):
        chance = random.Random(101)
        for tower in towers(GREAT):
            plain = plain_towers.PlainTower(tower.field, tower.fold, tower.poly)
            for _ in range(20):
                self.check_pair(tower, plain, chance.choice(plain.members), chance.choice(plain.members))

    def test_powers(self):
        chance = random.Random(102)
        for tower in towers(SMALL + GREAT):
            plain = plain_towers.PlainTower(tower.field, tower.fold, tower.poly)
            zero, last = (0,) * tower.fold, tower.size - 1
            for one in [chance.choice(plain.members) for _ in range(4)] + [plain.one]:
                for number in (0, 1, 2, 3, 17, tower.size):
                    self.assertEqual(tower.raised(one, number), plain.raised(one, number))
                if one != zero:
                    self.assertEqual(tower.raised(one, last), plain.one)
                    self.assertEqual(tower.raised(one, 10 ** 60 - 1), plain.raised(one, (10 ** 60 - 1) % last))
            self.assertEqual(tower.raised(zero, 0), plain.one)
            self.assertEqual(tower.raised(zero, 10 ** 60 - 1), zero)

    def test_norms_and_traces(self):
        for tower in towers(SMALL):
            plain = plain_towers.PlainTower(tower.field, tower.fold, tower.poly)
            size, norms, traces = tower.field.size, {}, {}
            for one in plain.members:
                norm, trace = tower.norm_of(one), tower.trace_of(one)
                norms[norm] = norms.get(norm, 0) + 1
                traces[trace] = traces.get(trace, 0) + 1
                if tower.size < 130:
                    self.assertEqual((norm, trace), (plain.norm(one), plain.trace(one)))
            told = {code: (tower.size - 1) // (size - 1) for code in range(1, size)}
            self.assertEqual(norms, {0: 1, **told})
            self.assertEqual(traces, {code: tower.size // size for code in range(size)})

    def test_norms_and_traces_of_great_towers(self):
        chance = random.Random(103)
        for tower in towers(GREAT):
            plain = plain_towers.PlainTower(tower.field, tower.fold, tower.poly)
            for _ in range(4):
                one, other = chance.choice(plain.members), chance.choice(plain.members)
                self.assertEqual((tower.norm_of(one), tower.trace_of(one)), (plain.norm(one), plain.trace(one)))
                field = tower.field
                self.assertEqual(tower.norm_of(tower.times(one, other)),
                                 field.times(tower.norm_of(one), tower.norm_of(other)))
                self.assertEqual(tower.trace_of(tower.plus(one, other)),
                                 field.plus(tower.trace_of(one), tower.trace_of(other)))

    def test_one_fold_is_the_field(self):
        for field in (Field(7), Field(3, 2), Field(2, 9)):
            tower = Tower(field, 1)
            for one in range(0, field.size, 1 + field.size // 9):
                self.assertEqual((tower.norm_of((one,)), tower.trace_of((one,))), (one, one))
                for other in range(field.size):
                    self.assertEqual(tower.times((one,), (other,)), (field.times(one, other),))
                    self.assertEqual(tower.plus((one,), (other,)), (field.plus(one, other),))


if __name__ == "__main__":
    unittest.main()
