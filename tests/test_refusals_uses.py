"""Wrong arguments of the stages 15 to 17: each error, what it keeps, and which one is first ([0.4], [0.7])."""

import math
import unittest

import carryturns.design.designs as designs
import carryturns.errors as errors
import carryturns.mutual.squares as squares
import carryturns.mutual.symbols as symbols
from carryturns.count.equations import Equation
from carryturns.field.fields import Field
from carryturns.turn.turns import Turn
from carryturns.use.bench import Bench, is_pledge
from tests.kinds import A_FIELD, LONG, NATURAL, Kind, Refusals, elements, objects_of, orders_of, prime_to, within
from tests.support import all_kinds, assert_raises, plain_integer, raised_by, short_integer
from tests.test_refusals_turns import turning

SEVEN, NINE, THIRTEEN, GREAT = Field(7), Field(3, 2), Field(13), Field(509)
ONE, OTHER, FIFTH = Turn(3, (2, 3)), Turn(3, (-1, 3)), Turn(5, (-2, -2, -1, -2))
EVEN, ZERO = Turn(3, (1, -1)), Turn(3, (0, 0))
CUBES, CIRCLE = Equation(SEVEN, ((1, 3), (1, 3)), 1), Equation(SEVEN, ((1, 2), (1, 2)), 1)
SIX = ("a", "b", "c", "d", "e", "f")
NORM = ("norm", "one", 7)


def times_of(prime, factor, times):
    return squares.squares_with(prime, factor, times=times)


def union_of(field, order, numbers, zero):
    return designs.union_of(field, order, numbers, zero=zero)


def union_gaps(field, order, numbers, zero):
    return designs.union_gaps(field, order, numbers, zero=zero)


def difference_unions(field, order, zero):
    return designs.difference_unions(field, order, zero=zero)


def made():
    """A bench with two turn numbers, two equations and a pledge; there is a change to do again."""
    bench = Bench(SEVEN)
    bench.put("one", Turn(3, (-1, -3)))
    bench.put("six", Turn(6, (1, 3)))
    bench.load("cubes", CUBES)
    bench.load("circle", CIRCLE)
    bench.demand(NORM)
    bench.drop("six")
    bench.undo()
    return bench


def full():
    """A bench with six turn numbers, six equations and ten pledges."""
    bench = Bench(SEVEN)
    for at, name in enumerate(SIX):
        bench.put(name, Turn(3, (at, -3)))
        bench.load(name * 2, CUBES)
    for at in range(10):
        bench.demand(("even", SIX[at % 6] * 2, SIX[at // 6] * 2))
    return bench


def on(bench, name):
    """A call of a method of a new bench each time."""
    def call(*given):
        return getattr(bench(), name)(*given)
    call.__name__ = name
    return call


def by_keyword(bench, name):
    """A call of a method of a new bench each time, by the keyword many."""
    def call(many):
        return getattr(bench(), name)(many=many)
    call.__name__ = name
    return call


CALL = {name: on(made, name) for name in (
    "put", "load", "blend", "weave", "spin", "aim", "drop", "rename", "demand", "waive", "turn_named", "equation_named",
)}
FULL = {name: on(full, name) for name in CALL}
UNDO, REDO = by_keyword(made, "undo"), by_keyword(made, "redo")


def is_free(value):
    """Whether a value is a name that made() does not have."""
    return (
        type(value) is str and 1 <= len(value) <= 8 and all("a" <= sign <= "z" for sign in value)
        and value not in ("one", "six", "cubes", "circle")
    )


def named(names, error=errors.UnknownName):
    """Names out of a tuple."""
    wrong = ["one", "six", "cubes", "circle", "other", "One", "", "ones", "abcdefghi", "one ", ("one",), 1]
    return Kind(error, lambda value: type(value) is str and value in names, wrong)


A_TURN = objects_of(Turn, errors.InvalidTurn, [(3, (2, 3)), (2, 3), "2+3z order 3", CUBES, Turn])
PRIME = prime_to(10 ** 6, [0, 1, 4, 9, 10 ** 6, 10 ** 6 + 3, 999981, 561])
MEMBERS = Kind(
    errors.InvalidElement,
    lambda value: type(value) is tuple and all(plain_integer(one) and 0 <= one < 7 for one in value) and list(value) == sorted(set(value)),
    [(2, 1), (1, 1), (1, 2, 7), (-1, 2), (1, True), (False, 1), ("1",), (None,), [1, 2], {1: 2}, 1, "12", ((1,),), (0, 6, 5)],
    hangs=True,
)
NUMBERS = Kind(
    errors.InvalidOperation,
    lambda value: type(value) is tuple and all(plain_integer(one) and 0 <= one < 3 for one in value) and list(value) == sorted(set(value)),
    [(1, 0), (1, 1), (0, 3), (-1, 2), (0, True), (False, 1), ("1",), (None,), [0, 1], {0: 1}, 1, "01", ((1,),), (LONG,)],
    hangs=True,
)
FLAG = Kind(errors.InvalidOperation, lambda value: type(value) is bool, [0, 1, "True"])
OF_SEVEN = orders_of(7)
FREE = Kind(errors.InvalidOperation, is_free, ["one", "six", "cubes", "circle", "Ab", "abcdefghi", "a b", "a1", "\n"])
TURNS = named(("one", "six"))
EQUATIONS = named(("cubes", "circle"))
ANY_NAME = named(("one", "six", "cubes", "circle"))
BENCH_TURN = objects_of(Turn, errors.InvalidTurn, [(3, (2, 3)), "2+3z order 3", CUBES, Turn])
BENCH_EQUATION = objects_of(Equation, errors.InvalidEquation, [str(CUBES), ONE, 1, Equation])
NAMES = Kind(errors.InvalidOperation, lambda value: False, [
    {}, {"one": "two"}, {"one": "a", "six": "b", "cubes": "c"}, {"one": "a", "six": "b", "cubes": "c", "circles": "d"},
    {"one": "a", "six": "b", "cubes": "c", "circle": "d", "two": "e"}, {"one": "a", "six": "b", "cubes": "c", "circle": "a"},
    {"one": "a", "six": "b", "cubes": "c", "circle": "D"}, {"one": "a", "six": "b", "cubes": "c", "circle": 1},
    {"one": "a", "six": "b", "cubes": "c", "circle": None}, {"one": "a", "six": "b", "cubes": "c", "circle": ["d"]},
    {"one": "a", "six": "b", "cubes": "c", "circle": "abcdefghi"}, {"one": "a", "six": "b", "cubes": "c", 1: "d"},
    (("one", "a"), ("six", "b"), ("cubes", "c"), ("circle", "d")), {"one": "", "six": "b", "cubes": "c", "circle": "d"},
])
NEW_PLEDGE = Kind(errors.InvalidOperation, lambda value: is_pledge(value) and value != NORM, [
    NORM, ("norm", "one", True), ("norm", "One", 7), ("norm", "one"), ("norm", "one", 7, 7), ["norm", "one", 7], "norm",
    ("norms", "one", 7), ("norm", 7, "one"), ("total", "one", 1), ("like", "one", 1), (("norm",), "one", 7), (["norm"], "one", 7),
    ("norm", "one", LONG), ("count", "one", None), ("even", "a", "abcdefghi"), ("norm", ["one"], 7), ("left", "one", (7,)),
])
OLD_PLEDGE = Kind(errors.InvalidOperation, lambda value: value == NORM and type(value[2]) is int, [
    ("norm", "one", 8), ("norm", "one", True), ("norm", "two", 7), ["norm", "one", 7], ("left", "one", 7), "norm",
])

CALLS = (
    (symbols.is_odd, ((A_TURN, ONE),)),
    (symbols.is_near_one, ((A_TURN, ONE),)),
    (symbols.near_power, ((A_TURN, ONE),)),
    (symbols.symbol_over, ((A_TURN, ONE), (A_TURN, OTHER))),
    (symbols.differ_by, ((A_TURN, ONE), (A_TURN, OTHER))),
    (squares.two_squares, ((PRIME, 13),)),
    (squares.cube_squares, ((PRIME, 13),)),
    (times_of, ((PRIME, 73), (within(1, 1000), 64), (within(1, 100), 4))),
    (squares.pair_by_total, ((PRIME, 73), (Kind(errors.InvalidOrder, lambda value: plain_integer(value) and value in (3, 4), [0, 1, 2, 5, 6, 12, -3]), 4))),
    (squares.is_power_of, (
        (PRIME, 31), (Kind(errors.InvalidCount, lambda value: short_integer(value) and value % 31 != 0, [0, 31, -31, 62], hangs=True), 2),
        (Kind(errors.InvalidOrder, lambda value: plain_integer(value) and value > 0 and 30 % value == 0, [0, -1, 4, 7, 31], hangs=True), 3),
    )),
    (designs.gap_counts, ((A_FIELD, SEVEN), (MEMBERS, (1, 2, 4)))),
    (designs.is_difference_set, ((A_FIELD, SEVEN), (MEMBERS, (1, 2, 4)))),
    (union_of, ((A_FIELD, SEVEN), (OF_SEVEN, 3), (NUMBERS, (0, 2)), (FLAG, True))),
    (union_gaps, ((A_FIELD, SEVEN), (OF_SEVEN, 3), (NUMBERS, (0, 2)), (FLAG, True))),
    (difference_unions, ((A_FIELD, SEVEN), (OF_SEVEN, 3), (FLAG, True))),
    (designs.word_of, ((A_FIELD, SEVEN), (OF_SEVEN, 3), (elements(7), 6))),
    (designs.weight_of, ((A_FIELD, SEVEN), (OF_SEVEN, 3), (elements(7), 6))),
    (designs.word_dimension, ((A_FIELD, SEVEN), (OF_SEVEN, 3))),
    (designs.weights_by_class, ((A_FIELD, SEVEN), (OF_SEVEN, 3))),
    (designs.weight_counts, ((A_FIELD, SEVEN), (OF_SEVEN, 3))),
    (Bench, ((A_FIELD, SEVEN),)),
    (CALL["put"], ((FREE, "two"), (BENCH_TURN, ONE))),
    (CALL["load"], ((FREE, "two"), (BENCH_EQUATION, CIRCLE))),
    (CALL["blend"], ((FREE, "two"), (TURNS, "one"), (TURNS, "one"))),
    (CALL["weave"], ((FREE, "two"), (TURNS, "six"), (TURNS, "six"))),
    (CALL["spin"], ((TURNS, "one"), (turning(3), -1))),
    (CALL["aim"], ((EQUATIONS, "cubes"), (elements(7), 0))),
    (CALL["drop"], ((ANY_NAME, "circle"),)),
    (CALL["rename"], ((NAMES, {"one": "one", "six": "cubes", "cubes": "six", "circle": "abcdefgh"}),)),
    (CALL["demand"], ((NEW_PLEDGE, ("count", "cubes", 6)),)),
    (CALL["waive"], ((OLD_PLEDGE, NORM),)),
    (CALL["turn_named"], ((TURNS, "one"),)),
    (CALL["equation_named"], ((EQUATIONS, "cubes"),)),
    (UNDO, ((NATURAL, 5),)),
    (REDO, ((NATURAL, 1),)),
)

WRONG_ORDERS = (Turn(1, (1,)), Turn(2, (3,)), Turn(6, (1, 2)), Turn(8, (1, 0, 0, 0)), Turn(60, (1,) + (0,) * 15))
LARGE = Turn(3, (10 ** 6 + 1, 0))

THEN = (
    *[(call, (turn,), errors.InvalidOrder, None) for call in (symbols.is_odd, symbols.is_near_one, symbols.near_power) for turn in WRONG_ORDERS],
    *[(call, (turn, ONE), errors.InvalidOrder, None) for call in (symbols.symbol_over, symbols.differ_by) for turn in WRONG_ORDERS],
    *[(call, (ONE, turn), errors.InvalidOperation, None) for call in (symbols.symbol_over, symbols.differ_by) for turn in WRONG_ORDERS + (FIFTH,)],
    (symbols.near_power, (EVEN,), errors.InvalidOperation, None),
    (symbols.near_power, (ZERO,), errors.InvalidOperation, None),
    (symbols.near_power, (Turn(4, (1, 1)),), errors.InvalidOperation, None),
    (symbols.symbol_over, (ONE, EVEN), errors.InvalidOperation, None),
    (symbols.symbol_over, (ONE, ZERO), errors.InvalidOperation, None),
    (symbols.symbol_over, (ONE, LARGE), errors.TooMany, 10 ** 12),
    (symbols.symbol_over, (ONE, Turn(3, (10 ** 6, 0))), None, None),
    (symbols.symbol_over, (ONE, EVEN.scaled(10 ** 9)), errors.InvalidOperation, None),
    (symbols.differ_by, (ONE, EVEN), errors.InvalidOperation, None),
    (symbols.differ_by, (EVEN, ONE), errors.InvalidOperation, None),
    (symbols.differ_by, (Turn(3, (1, 1)), ONE), errors.InvalidOperation, None),
    (symbols.differ_by, (ONE, Turn(3, (1, 1))), errors.InvalidOperation, None),
    (symbols.differ_by, (Turn(4, (3, 2)), Turn(4, (1, 2))), errors.InvalidOperation, None),
    (symbols.differ_by, (Turn(4, (1, 2)), Turn(4, (3, 2))), errors.InvalidOperation, None),
    (symbols.differ_by, (FIFTH, FIFTH), errors.InvalidOperation, None),
    (symbols.differ_by, (FIFTH, Turn.whole(5, 2)), errors.InvalidOperation, None),
    (symbols.differ_by, (Turn.whole(5, 5), FIFTH), errors.InvalidOperation, None),
    *[(symbols.differ_by, (Turn(5, entries), FIFTH), errors.InvalidOperation, None) for entries in ((2, 5, 0, 0), (2, 0, 5, 0), (2, 0, 0, 5))],
    (symbols.differ_by, (Turn.whole(5, 2), FIFTH.times(Turn.power(5, 1))), errors.InvalidOperation, None),
    *[(squares.two_squares, (prime,), errors.InvalidOperation, None) for prime in (2, 3, 7, 11, 999983)],
    *[(squares.cube_squares, (prime,), errors.InvalidOperation, None) for prime in (2, 3, 5, 11, 999983)],
    (squares.pair_by_total, (11, 4), errors.InvalidOperation, None),
    (squares.pair_by_total, (11, 3), errors.InvalidOperation, None),
    (squares.pair_by_total, (2, 3), errors.InvalidOperation, None),
    (squares.pair_by_total, (521, 4), errors.TooMany, 512),
    (squares.pair_by_total, (523, 3), errors.TooMany, 512),
    (squares.pair_by_total, (521, 3), errors.InvalidOperation, None),
    (squares.pair_by_total, (523, 4), errors.InvalidOperation, None),
    *[(difference_unions, (field, order, zero), errors.TooMany, 8) for field, order in ((THIRTEEN, 12), (Field(37), 9), (Field(73), 24)) for zero in (True, False)],
    (CALL["put"], ("two", Turn(4, (1, 2))), errors.InvalidOrder, None),
    (FULL["put"], ("two", Turn(4, (1, 2))), errors.InvalidOrder, None),
    (FULL["put"], ("two", ONE), errors.TooMany, 6),
    (CALL["load"], ("two", Equation(NINE, ((1, 2),), 1)), errors.InvalidOperation, None),
    (FULL["load"], ("two", Equation(NINE, ((1, 2),), 1)), errors.InvalidOperation, None),
    (FULL["load"], ("two", CUBES), errors.TooMany, 6),
    (CALL["blend"], ("two", "one", "six"), errors.InvalidOperation, None),
    (CALL["weave"], ("two", "six", "one"), errors.InvalidOperation, None),
    (FULL["blend"], ("two", "a", "b"), errors.TooMany, 6),
    (FULL["weave"], ("two", "a", "b"), errors.TooMany, 6),
    (FULL["demand"], (("count", "aa", 6),), errors.TooMany, 10),
    (FULL["demand"], (("count", "aa", 7),), errors.TooMany, 10),
    (FULL["demand"], (("even", "aa", "aa"),), errors.InvalidOperation, None),
    (CALL["demand"], (("norm", "one", 8),), errors.Refused, ("norm", "one", 8)),
    (CALL["demand"], (("norm", "cubes", 8),), errors.Refused, ("norm", "cubes", 8)),
    (CALL["demand"], (("count", "one", 6),), errors.Refused, ("count", "one", 6)),
    (CALL["demand"], (("total", "one", 3, 1),), errors.Refused, ("total", "one", 3, 1)),
    (CALL["drop"], ("one",), errors.Refused, NORM),
    (CALL["rename"], ({"one": "six", "six": "one", "cubes": "cubes", "circle": "circle"},), errors.Refused, NORM),
    (FULL["drop"], ("bb",), errors.Refused, ("even", "bb", "aa")),
    (FULL["aim"], ("cc", 0), errors.Refused, ("even", "cc", "aa")),
    (UNDO, (6,), errors.NothingToUndo, 6),
    (UNDO, (LONG - 1,), errors.NothingToUndo, LONG - 1),
    (REDO, (2,), errors.NothingToUndo, 2),
)

SEQUENCES = (
    (symbols.symbol_over, (ONE, 1), errors.InvalidTurn, None),
    (symbols.symbol_over, (Turn(1, (1,)), 1), errors.InvalidTurn, None),
    (symbols.symbol_over, (Turn(1, (1,)), Turn(2, (1,))), errors.InvalidOrder, None),
    (symbols.symbol_over, (FIFTH, ONE), errors.InvalidOperation, None),
    (symbols.differ_by, (1, Turn(2, (1,))), errors.InvalidTurn, None),
    (symbols.symbol_over, (ZERO, ONE), None, None),
    (symbols.is_odd, (ZERO,), None, None),
    (times_of, (4, 0, 0), errors.InvalidPrime, None),
    (times_of, (10 ** 6 + 3, 0, 0), errors.InvalidPrime, None),
    (times_of, (999983, 0, 0), errors.InvalidCount, 0),
    (times_of, (999983, 1001, 0), errors.InvalidCount, 1001),
    (times_of, (999983, 1000, 0), errors.InvalidCount, 0),
    (times_of, (999983, 1000, 101), errors.InvalidCount, 101),
    (squares.pair_by_total, (1000003, 5), errors.InvalidPrime, None),
    (squares.pair_by_total, (11, 5), errors.InvalidOrder, None),
    (squares.pair_by_total, (521, 12), errors.InvalidOrder, None),
    (squares.is_power_of, (4, 0, 0), errors.InvalidPrime, None),
    (squares.is_power_of, (7, 14, 0), errors.InvalidCount, 14),
    (squares.is_power_of, (7, 0, 0), errors.InvalidCount, 0),
    (squares.is_power_of, (7, True, 0), errors.InvalidCount, True),
    (squares.is_power_of, (7, 1, 0), errors.InvalidOrder, None),
    (squares.is_power_of, (7, 1, 4), errors.InvalidOrder, None),
    (squares.is_power_of, (2, 1, 1), None, None),
    (designs.gap_counts, (7, (2, 1)), errors.InvalidField, None),
    (designs.gap_counts, (SEVEN, (0, 7)), errors.InvalidElement, None),
    (designs.is_difference_set, (SEVEN, (2, 1, 4)), errors.InvalidElement, None),
    (designs.is_difference_set, (SEVEN, ()), None, None),
    (union_of, (7, 4, (1, 0), 0), errors.InvalidField, None),
    (union_of, (SEVEN, 4, (1, 0), 0), errors.InvalidOrder, None),
    (union_of, (SEVEN, 3, (), False), None, None),
    (union_gaps, (SEVEN, 3, (1, 0), 0), errors.InvalidOperation, None),
    (difference_unions, (THIRTEEN, 12, 1), errors.InvalidOperation, None),
    (difference_unions, (THIRTEEN, 5, 1), errors.InvalidOrder, None),
    (designs.word_of, (SEVEN, 4, 7), errors.InvalidOrder, None),
    (designs.word_of, (SEVEN, 3, 7), errors.InvalidElement, None),
    (CALL["put"], ("one", 1), errors.InvalidOperation, None),
    (CALL["put"], ("cubes", ONE), errors.InvalidOperation, None),
    (FULL["put"], ("two", 1), errors.InvalidTurn, None),
    (FULL["load"], ("aa", 1), errors.InvalidOperation, None),
    (FULL["load"], ("two", ONE), errors.InvalidEquation, None),
    (CALL["blend"], ("one", "two", "two"), errors.InvalidOperation, None),
    (CALL["blend"], ("two", "three", "four"), errors.UnknownName, "three"),
    (CALL["blend"], ("two", "cubes", "four"), errors.UnknownName, "cubes"),
    (CALL["weave"], ("two", "one", "two"), errors.UnknownName, "two"),
    (FULL["weave"], ("two", "a", "aa"), errors.UnknownName, "aa"),
    (CALL["spin"], ("cubes", 3), errors.UnknownName, "cubes"),
    (CALL["spin"], ("one", 3), errors.InvalidCount, 3),
    (CALL["spin"], ("one", True), errors.InvalidCount, True),
    (CALL["aim"], ("one", 7), errors.UnknownName, "one"),
    (CALL["aim"], ("cubes", 7), errors.InvalidElement, None),
    (CALL["drop"], (["one"],), errors.UnknownName, ["one"]),
    (CALL["rename"], ({"one": ["a"]},), errors.InvalidOperation, None),
    (on(lambda: Bench(SEVEN), "rename"), ({},), None, None),
    (on(lambda: Bench(SEVEN), "rename"), ((),), errors.InvalidOperation, None),
    (UNDO, (-1,), errors.InvalidCount, -1),
    (UNDO, (True,), errors.InvalidCount, True),
    (UNDO, (0,), None, None),
    (REDO, (0,), None, None),
    (by_keyword(lambda: Bench(SEVEN), "undo"), (1,), errors.NothingToUndo, 1),
    (by_keyword(lambda: Bench(SEVEN), "redo"), (1,), errors.NothingToUndo, 1),
)

RIGHT = (
    (symbols.symbol_over, (Turn(3, (LONG - 1, LONG - 2)), OTHER)), (symbols.is_odd, (Turn(7, (LONG - 1,) * 6),)),
    (squares.two_squares, (999961,)), (squares.cube_squares, (999979,)), (squares.two_squares, (5,)),
    (times_of, (999983, 1, 100)), (times_of, (2, 1000, 1)), (squares.pair_by_total, (509, 4)),
    (squares.pair_by_total, (499, 3)), (squares.is_power_of, (999983, LONG - 1, 999982)),
    (designs.gap_counts, (SEVEN, ())), (designs.gap_counts, (Field(2, 9), tuple(range(512)))),
    (union_of, (GREAT, 4, (0, 1, 2, 3), True)), (difference_unions, (Field(17), 8, False)),
    (designs.weight_counts, (Field(2), 1)), (FULL["drop"], ("a",)), (FULL["spin"], ("a", 2)),
)


class UseStages(Refusals, unittest.TestCase):
    CALLS = CALLS
    THEN = THEN
    SEQUENCES = SEQUENCES
    RIGHT = RIGHT

    def test_values_are_judged(self):
        bench = made()
        for value in all_kinds():
            self.assertIn(is_pledge(value), (True, False))
            self.assertIn(value in bench, (True, False))
            self.assertIn(bench == value, (True, False))

    def test_a_call_that_raises_changes_nothing(self):
        tried = [(name, given) for name, call in CALL.items() for other, given, kind, _ in THEN + SEQUENCES if other == call and kind]
        self.assertTrue(len(tried) > 20)
        bench = made()
        kept = bench.twin()
        for name, given in tried:
            self.assertIsNotNone(raised_by(getattr(bench, name), *given), (name, given))
            self.assertEqual((bench, bench.lines, bench.changes), (kept, kept.lines, kept.changes))
        assert_raises(self, errors.NothingToUndo, 2, lambda: bench.redo(many=2))
        self.assertEqual(bench.redo(), kept.redo())
        self.assertEqual(bench.undo(many=6), kept.undo(many=6))
        self.assertEqual((bench.changes, math.gcd(len(bench), 1)), (0, 1))


if __name__ == "__main__":
    unittest.main()
