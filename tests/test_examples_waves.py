"""The examples of the document for the stages 11 to 14, word for word."""

import unittest

import carryturns.carry.carries as carries
import carryturns.field.fields as fields
import carryturns.ideal.ideals as ideals
import carryturns.place.places as places
import carryturns.total.totals as totals
import carryturns.turn.turns as turns
import carryturns.wave.waves as waves
from tests.support import check_examples, examples_in
from tests.test_examples import example_fields

WAVE = """
>>> FOURTH = gauss(Field(5), 4, 1)
>>> [[str(entry) for entry in FOURTH.entries], FOURTH.is_turn, str(FOURTH), str(gauss_power(Field(5), 4, 1))]
[['1 order 4', '2 order 4', '1+z order 4', '1-z order 4'], False, 'wave of order 4 over 5', '-15+20z order 4']
>>> [str(jacobi_by_gauss(Field(5), 4, (1, 1))), str(gauss(Field(2, 2), 3, 1).as_turn()), gauss(Field(3), 2, 1).raised(2).as_turn().entries]
['-1-2z order 4', '2 order 3', (-3,)]
>>> [FOURTH.moved(2) == FOURTH.scaled(Turn.power(4, -1)), gauss_at(Field(5), 4, 1, 2) == FOURTH.moved(2), gauss_above(Field(5), 4, 1, 2) == FOURTH.raised(2).opposite()]
[True, True, True]
>>> jacobi_by_gauss(Field(5), 4, (1, 3))
raises InvalidOperation
"""

CARRY = """
>>> EIGHT = Field(2, 3)
>>> [carries_of(EIGHT, 6, 5), count_carries(EIGHT, 6, 5), carries_of(EIGHT, 3, 4), carries_of(EIGHT, 1, 2), carries_of(EIGHT, 0, 6), carries_of(SEVEN, 4, 4)]
[(1, 1, 1), 3, (1, 1, 1), (0, 0, 0), (0, 0, 0), (1,)]
>>> [carry_row(EIGHT, 7, 1, 2), carry_row(EIGHT, 7, 1, 1), least_carries(EIGHT, 7, 1, 2), least_carries(EIGHT, 7, 1, 1), carry_row(SEVEN, 3, 1, 1)]
[{1: 3, 2: 3, 3: 0, 4: 3, 5: 0, 6: 0}, {1: 2, 2: 2, 3: 1, 4: 2, 5: 1, 6: 1}, 0, 1, {1: 1, 2: 0}]
>>> [rest_of(SEVEN, 3, 1, 1), rest_of(SEVEN, 3, 2, 1), left_at_generator(SEVEN, Turn(3, (-1, -3))), left_at_generator(SEVEN, Turn(3, (2, 3))), binomial_left(SEVEN, 3, 1, 1), binomial_left(SEVEN, 3, 2, 2)]
[4, 2, 0, 1, 0, 1]
>>> [prime_power_in(SEVEN, Turn(3, (49, -98))), prime_power_in(SEVEN, Turn(3, (0, 0))), prime_power_in(EIGHT, Turn(1, (12,)))]
[2, None, 2]
>>> least_carries(EIGHT, 7, 3, 4)
raises InvalidOperation
"""

PLACE = """
>>> one, other = places(3, 7)
>>> [one.poly, other.poly, one.size, str(other), [count_places(5, 11), count_places(15, 2), count_places(1, 7)], places(8, 3)[1].poly]
[(3, 1), (5, 1), 7, 'place (5, 1) over 7 order 3', [4, 2, 1], (2, 2, 1)]
>>> some = Turn(3, (3, 1))
>>> [one.leaves(some), other.leaves(some), some in one, some in other, one.symbol(some), one.symbol(Turn(3, (2, 0))), other.symbol(Turn(3, (2, 0)))]
[(0,), (5,), True, False, None, 1, 2]
>>> [one.times_of(some), one.times_of(Turn(3, (8, 5))), one.times_of(Turn(3, (14, 0))), one.turned_by(2) == other, turning_to(one, other)]
[1, 2, 1, True, 2]
>>> four = Place(4, 3, (1, 0, 1))
>>> [four.leaves(Turn(4, (5, 4))), four.symbol(Turn(4, (1, 1))), Place(7, 2, (1, 1, 0, 1)).leaves(Turn(7, (1, 0, 0, 1, 0, 1)))]
[(2, 1), 3, (1, 0, 1)]
>>> [place_of_field(SEVEN, 3).poly, place_of_field(NINE, 4).poly, place_of_field(NINE, 8).poly, left_element(SEVEN, some), left_element(NINE, Turn(4, (1, 1)))]
[(5, 1), (1, 0, 1), (2, 1, 1), 5, 7]
>>> Place(3, 7, (1, 1))
raises InvalidPlace
"""

IDEAL = """
>>> FIVE = ideal_of_place(place_of_field(Field(5), 4))
>>> [FIVE.rows, str(FIVE), FIVE.moved(3).rows, FIVE.multiplied(FIVE.moved(3)).rows, FIVE.lifted_by(2).rows]
[((1, 2), (0, 5)), '1 2/0 5 of order 4', ((1, 3), (0, 5)), ((5, 0), (0, 5)), ((1, 7), (0, 25))]
>>> [Turn(4, (1, 2)) in FIVE, Turn(4, (2, 1)) in FIVE, is_maker(FIVE, Turn(4, (-2, 1))), is_maker(FIVE, Turn(4, (5, 0)))]
[True, False, True, False]
>>> [ideal_of(3, (Turn(3, (7, 0)), Turn(3, (2, -1)))).rows, ideal_of(8, (Turn(8, (1, 1, 0, 0)),)).size, jacobi_ideal(Field(5), 4, 1, 1).rows, jacobi_ideal(NINE, 4, 1, 1).rows]
[((1, 3), (0, 7)), 2, ((1, 2), (0, 5)), ((3, 0), (0, 3))]
>>> [is_only_total(SEVEN, 3, 1, 1, jacobi(SEVEN, 3, (1, 1))), is_only_total(SEVEN, 3, 1, 1, jacobi(SEVEN, 3, (2, 2)))]
[True, False]
>>> [FIVE.joined(FIVE.moved(3)) == whole_ideal(4), FIVE.shared(FIVE.moved(3)).size, FIVE.parted(FIVE.moved(3)), len(places_in(ideal_of(4, (Turn(4, (15, 0)),))))]
[True, 25, None, 3]
>>> Ideal(4, ((1, 1), (0, 5)))
raises InvalidIdeal
"""


class WaveExamples(unittest.TestCase):
    def check(self, text, many, *modules):
        self.assertEqual(len(examples_in(text)), many)
        names = {name: value for module in modules for name, value in vars(module).items()}
        check_examples(self, text, {**vars(fields), **vars(turns), **names, **example_fields()})

    def test_waves(self):
        self.check(WAVE, 5, waves)

    def test_carries(self):
        self.check(CARRY, 6, carries)

    def test_places(self):
        self.check(PLACE, 9, places)

    def test_ideals(self):
        self.check(IDEAL, 7, totals, places, ideals)

    def test_told_in_words(self):
        names = example_fields()
        self.assertEqual([carries.padded_digits(number, 2, 3) for number in (6, 5, 11 % 7)], [(0, 1, 1), (1, 0, 1), (0, 0, 1)])
        self.assertEqual(names["SEVEN"].power_of(2), 2)
        total = totals.jacobi(names["SEVEN"], 3, (1, 1))
        self.assertEqual((total.entries, -1 - 3 * 2, carries.left_at_generator(names["SEVEN"], total)), ((-1, -3), -7, 0))


if __name__ == "__main__":
    unittest.main()
