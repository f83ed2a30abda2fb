"""The examples of the document for the stages 15 to 17, word for word."""

import unittest

import carryturns.count.equations as equations
import carryturns.design.designs as designs
import carryturns.field.fields as fields
import carryturns.mutual.squares as squares
import carryturns.mutual.symbols as symbols
import carryturns.turn.turns as turns
import carryturns.use.bench as bench
from tests.support import check_examples, examples_in
from tests.test_examples import example_fields

MUTUAL = """
>>> one, other = Turn(3, (2, 3)), Turn(3, (-1, 3))
>>> [is_near_one(one), near_power(Turn(3, (1, 1))), symbol_over(one, other), symbol_over(other, one), symbol_over(Turn.whole(3, 2), one), symbol_over(Turn.whole(3, 7), one)]
[True, 1, 2, 2, 1, None]
>>> fourth, last = Turn(4, (3, 2)), Turn(4, (-1, 2))
>>> [is_near_one(fourth), is_near_one(last), symbol_over(fourth, last), symbol_over(last, fourth), differ_by(fourth, last), symbol_over(Turn.power(4, 1), fourth), is_odd(Turn(4, (1, 1)))]
[True, True, 2, 0, 2, 3, False]
>>> fifth = Turn(5, (-2, -2, -1, -2))
>>> [is_near_one(fifth), symbol_over(Turn.whole(5, 2), fifth), symbol_over(fifth, Turn.whole(5, 2)), differ_by(Turn.whole(5, 2), fifth)]
[True, 1, 1, 0]
>>> [two_squares(13), cube_squares(13), cube_squares(31), pair_by_total(73, 4), pair_by_total(61, 3), squares_with(73, 64), squares_with(7, 27, times=4)]
[(3, 2), (-5, 1), (4, 2), (3, 8), (1, 3), ((3, 1),), ((1, 1),)]
>>> [is_power_of(31, 2, 3), is_power_of(61, 3, 3), is_power_of(73, 2, 4), is_power_of(13, 2, 4), is_power_of(7, -1, 3)]
[True, True, True, False, True]
>>> symbol_over(one, Turn(3, (1, -1)))
raises InvalidOperation
"""

DESIGN = """
>>> SEVEN, EIGHT, NINE, THIRTEEN = Field(7), Field(2, 3), Field(3, 2), Field(13)
>>> [gap_counts(SEVEN, (1, 2, 4)), is_difference_set(SEVEN, (1, 2, 3)), is_difference_set(SEVEN, (0, 3, 5, 6))]
[{1: 1, 2: 1, 3: 1, 4: 1, 5: 1, 6: 1}, False, True]
>>> [union_of(THIRTEEN, 4, (0,), zero=True), union_gaps(THIRTEEN, 4, (0,)), union_gaps(THIRTEEN, 4, (0,), zero=True)]
[(0, 1, 3, 9), (0, 1, 0, 1), (1, 1, 1, 1)]
>>> [difference_unions(SEVEN, 2), difference_unions(THIRTEEN, 4, zero=True)]
[((0,), (0, 1), (1,)), ((0,), (1,), (2,), (3,))]
>>> [word_of(EIGHT, 1, 1), weight_of(EIGHT, 1, 1), word_dimension(EIGHT, 1), word_dimension(NINE, 4), weights_by_class(NINE, 4), weight_counts(NINE, 4)]
[(1, 0, 0, 1, 0, 1, 1), 4, 3, 1, (2, 2, 0, 2), {0: 3, 2: 6}]
>>> is_difference_set(SEVEN, (2, 1, 4))
raises InvalidElement
"""

BENCH = """
>>> bench, kept = Bench(SEVEN), ("norm", "one", 7)
>>> [bench.put("one", Turn(3, (-1, -3))), bench.demand(kept), str(bench)]
[((), ('turn one: -1-3z order 3',)), ((), ()), 'bench over 7 of 1 turns, 0 equations, 1 pledges']
>>> [bench.spin("one", 2), bench.weave("two", "one", "one"), bench.changes]
[(('turn one: -1-3z order 3',), ('turn one: 2+3z order 3',)), ((), ('turn two: -5+3z order 3',)), 4]
>>> [bench.load("cubes", Equation(SEVEN, ((1, 3), (1, 3)), 1)), bench.demand(("count", "cubes", 6))]
[((), ('equation cubes: 1*x^3 + 1*y^3 = 1 over 7',)), ((), ())]
>>> bench.aim("cubes", 0)
raises Refused(("count", "cubes", 6))
>>> [bench.undo(many=2), len(bench), kept in bench, "field 7" in bench]
[(('equation cubes: 1*x^3 + 1*y^3 = 1 over 7',), ()), 1, True, True]
"""


class UseExamples(unittest.TestCase):
    def check(self, text, many, *modules):
        self.assertEqual(len(examples_in(text)), many)
        names = {name: value for module in modules for name, value in vars(module).items()}
        check_examples(self, text, {**vars(fields), **vars(turns), **names, **example_fields()})

    def test_reciprocity(self):
        self.check(MUTUAL, 9, squares, symbols)

    def test_designs(self):
        self.check(DESIGN, 6, designs)

    def test_a_bench(self):
        self.check(BENCH, 6, equations, bench)

    def test_told_in_words(self):
        nine = example_fields()["NINE"]
        self.assertEqual(nine.power_of(4), 2)
        for element in nine:
            trace = nine.trace_of(element)
            self.assertEqual(designs.word_of(nine, 4, element), (trace, 2 * trace % 3))


if __name__ == "__main__":
    unittest.main()
