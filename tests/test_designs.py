"""Difference sets and words: [16.1] to [16.9], held against all differences, classes, traces and periods."""

import itertools
import math
import random
import unittest

from carryturns.design.designs import (
    difference_unions, gap_counts, is_difference_set, union_gaps, union_of, weight_counts, weight_of,
    weights_by_class, word_dimension, word_of,
)
from carryturns.field.fields import Field
from carryturns.period.periods import PeriodRing
from tests import plain_classes, plain_waves

FIELDS = plain_classes.small_fields()
GREATER = [Field(3, 3), Field(31), Field(2, 5), Field(37), Field(7, 2), Field(2, 6), Field(73), Field(3, 4), Field(2, 7)]


def plain_gaps(field, members):
    """How often each element is a difference of two members."""
    found = {element: 0 for element in range(1, field.size)}
    for one, other in itertools.permutations(members, 2):
        found[field.minus(one, other)] += 1
    return found


def plain_union(field, order, numbers, zero):
    """The elements of a union, by their logs."""
    logs = plain_classes.logs_of(field)
    return tuple(one for one in field if (zero if one == 0 else logs[one] % order in numbers))


def is_plain_set(field, members):
    """Whether elements are a difference set, word for word."""
    return 2 <= len(members) < field.size and len(set(plain_gaps(field, members).values())) == 1


def plain_word(field, order, element):
    """The word, by traces added up."""
    step, power, found = field.power_of(order), 1, []
    for _ in range((field.size - 1) // order):
        found.append(plain_waves.trace(field, field.times(element, power)))
        power = field.times(power, step)
    return tuple(found)


class Gaps(unittest.TestCase):
    def test_all_differences(self):
        chance = random.Random(161)
        for field in FIELDS + GREATER:
            for many in (0, 1, 2, field.size // 2, field.size):
                members = tuple(sorted(chance.sample(range(field.size), many)))
                gaps = gap_counts(field, members)
                self.assertEqual(gaps, plain_gaps(field, members))
                self.assertEqual(list(gaps), list(range(1, field.size)))

    def test_all_sets_of_small_fields(self):
        for field in plain_classes.small_fields(11):
            for members in itertools.chain.from_iterable(itertools.combinations(range(field.size), many) for many in range(field.size + 1)):
                told = is_plain_set(field, members)
                self.assertEqual(is_difference_set(field, members), told)
                if told:
                    many = len(members) * (len(members) - 1) // (field.size - 1)
                    self.assertEqual(set(gap_counts(field, members).values()), {many})
                    others = tuple(one for one in field if one not in members)
                    self.assertEqual(is_difference_set(field, others), len(others) >= 2)

    def test_moved_and_multiplied_sets(self):
        for field in (Field(7), Field(11), Field(13), Field(31), Field(37)):
            order = {13: 4, 37: 4}.get(field.size, 2)
            members = plain_union(field, order, (0,), field.size == 13)
            self.assertTrue(is_difference_set(field, members))
            for element in field:
                added = tuple(sorted(field.plus(one, element) for one in members))
                self.assertTrue(is_difference_set(field, added))
                if element != 0:
                    self.assertTrue(is_difference_set(field, tuple(sorted(field.times(one, element) for one in members))))

    def test_squares(self):
        for size, field in ((field.size, field) for field in FIELDS + GREATER if field.prime > 2):
            told = size % 4 == 3 and size > 3
            self.assertEqual(is_difference_set(field, field.elements_of(2, 0)), told)


class Unions(unittest.TestCase):
    def test_members(self):
        for field in FIELDS:
            for order in field.orders:
                for numbers in self.some(order):
                    for zero in (False, True):
                        members = plain_union(field, order, numbers, zero)
                        self.assertEqual(union_of(field, order, numbers, zero=zero), members)
                    self.assertEqual(union_of(field, order, numbers), union_of(field, order, numbers, zero=False))

    def some(self, order):
        """Some ascending tuples of numbers of classes."""
        chance = random.Random(order)
        return [(), (0,), tuple(range(order))] + [
            tuple(sorted(chance.sample(range(order), chance.randint(1, order)))) for _ in range(4)
        ]

    def test_gaps(self):
        for field in FIELDS + GREATER[:4]:
            for order in field.orders:
                for numbers in self.some(order):
                    for zero in (False, True):
                        gaps = plain_gaps(field, plain_union(field, order, numbers, zero))
                        told = union_gaps(field, order, numbers, zero=zero)
                        logs = plain_classes.logs_of(field)
                        self.assertEqual(len(told), order)
                        self.assertTrue(all(told[logs[one] % order] == many for one, many in gaps.items()))
                    self.assertEqual(union_gaps(field, order, numbers), union_gaps(field, order, numbers, zero=False))

    def test_all_difference_sets(self):
        some = 0
        for field in FIELDS + GREATER[:5]:
            for order in [order for order in field.orders if order <= (8 if field.size < 20 else 6)]:
                for zero in (False, True):
                    told = [
                        numbers for many in range(order + 1) for numbers in itertools.combinations(range(order), many)
                        if is_plain_set(field, plain_union(field, order, numbers, zero))
                    ]
                    self.assertEqual(difference_unions(field, order, zero=zero), tuple(sorted(told)))
                    some += len(told)
                self.assertEqual(difference_unions(field, order), difference_unions(field, order, zero=False))
        self.assertTrue(some > 50)

    def test_known_ones(self):
        self.assertIn((0,), difference_unions(Field(37), 4))
        self.assertIn((0,), difference_unions(Field(73), 8))
        self.assertIn((0, 1, 3), difference_unions(Field(31), 6))
        self.assertNotIn((0,), difference_unions(Field(29), 4))
        self.assertEqual(difference_unions(Field(2), 1, zero=True), ())


class Words(unittest.TestCase):
    def test_traces(self):
        for field in FIELDS + GREATER[:3]:
            for order in field.orders:
                for element in list(field)[::1 + field.size // 12] + [0, field.size - 1]:
                    word = word_of(field, order, element)
                    self.assertEqual(word, plain_word(field, order, element))
                    self.assertEqual(weight_of(field, order, element), sum(one != 0 for one in word))

    def test_sums_and_rounds(self):
        chance = random.Random(165)
        for field in FIELDS + GREATER:
            for order in field.orders:
                one, other = chance.randrange(field.size), chance.randrange(field.size)
                words = word_of(field, order, one), word_of(field, order, other)
                added = tuple((first + second) % field.prime for first, second in zip(*words))
                self.assertEqual(word_of(field, order, field.plus(one, other)), added)
                turned = field.times(one, field.power_of(order))
                self.assertEqual(word_of(field, order, turned), words[0][1:] + words[0][:1])

    def test_different_words(self):
        for field in FIELDS + GREATER[:4]:
            for order in field.orders:
                counts = {}
                for element in field:
                    word = word_of(field, order, element)
                    counts[word] = counts.get(word, 0) + 1
                step, n = word_dimension(field, order), (field.size - 1) // order
                self.assertEqual([s for s in range(1, step + 1) if (field.prime ** s - 1) % n == 0], [step])
                self.assertEqual(len(counts), field.prime ** step)
                self.assertEqual(set(counts.values()), {field.prime ** (field.degree - step)})

    def test_weights(self):
        for field in FIELDS + GREATER:
            for order in field.orders:
                weights, counts = weights_by_class(field, order), {}
                classes = math.gcd(order, (field.size - 1) // (field.prime - 1))
                self.assertEqual(len(weights), classes)
                for element in field:
                    weight = sum(one != 0 for one in (plain_word if field.size < 20 else word_of)(field, order, element))
                    counts[weight] = counts.get(weight, 0) + 1
                    if element:
                        self.assertEqual(weight, weights[field.class_of(element, classes)])
                self.assertEqual(weight_counts(field, order), counts)
                self.assertEqual(list(weight_counts(field, order)), sorted(counts))
                total = (field.size - 1) // order * (field.prime - 1) * field.size // field.prime
                self.assertEqual(sum(weight * many for weight, many in counts.items()), total)

    def test_weights_by_periods(self):
        for field in FIELDS + GREATER + [Field(2, 9), Field(5, 3), Field(17, 2)]:
            p, q = field.prime, field.size
            for order in field.orders:
                weights = weights_by_class(field, order)
                poly = (1,)
                for weight in weights:
                    told = (p - 1) * (q - 1) - weight * p * order
                    self.assertEqual(told % ((p - 1) * len(weights)), 0)
                    h = told // ((p - 1) * len(weights))
                    poly = tuple(up - h * low for up, low in zip((0,) + poly, poly + (0,)))
                self.assertEqual(PeriodRing(field, len(weights)).poly, poly)

    def test_what_is_not_true(self):
        self.assertFalse(is_difference_set(Field(29), Field(29).elements_of(4, 0)))
        self.assertEqual(word_of(Field(3, 2), 4, 3), word_of(Field(3, 2), 4, 0))


if __name__ == "__main__":
    unittest.main()
