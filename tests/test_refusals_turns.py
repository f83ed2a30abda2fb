"""Wrong arguments of the stages 4 to 7: each error, what it keeps, and which one is first ([0.4], [0.7])."""

import math
import unittest

import carryturns.character.characters as characters
import carryturns.errors as errors
import carryturns.table.tables as tables
import carryturns.total.totals as totals
import carryturns.turn.turns as turns
from carryturns.character.characters import Character
from carryturns.field.fields import Field
from carryturns.turn.turns import Turn
from tests.kinds import A_FIELD, ANY, LONG, Kind, Refusals, elements, objects_of, orders_of, prime_to, within
from tests.support import all_kinds, assert_raises, plain_integer, raised_by, short_integer

SEVEN, NINE, THIRTEEN, TWENTY_FIVE = Field(7), Field(3, 2), Field(13), Field(5, 2)
TURN = Turn(5, (1, 2, 0, -1))
OTHER = Turn(5, (0, 1, 1, 0))
ZERO = Turn(5, (0, 0, 0, 0))
TWELVE = Turn(12, (3, 0, -1, 0))
SIX = Turn(6, (1, 2))
CHARACTER = Character(THIRTEEN, 4, 1)
CUBE = Character(SEVEN, 3, 1)
TABLE = tables.class_table(SEVEN, 3)
TOTALS = totals.all_totals(SEVEN, 3)


def turn_orders(told=lambda order: True):
    """Orders of turn numbers with a further property."""
    def is_right(value):
        return plain_integer(value) and 1 <= value <= 60 and told(value)
    return Kind(errors.InvalidOrder, is_right, [0, -1, 61, 60, 59, 120, 5, 7, 10, 12, 24, LONG], hangs=True)


def tuples_of(many, error, is_entry, entry):
    """Tuples of so many values of a kind, of which entry is one."""
    def is_right(value):
        return type(value) is tuple and len(value) == many and all(map(is_entry, value))
    right = (entry,) * many
    wrong = [right[1:], right + right[:1], list(right), right[:-1] + (None,), (True,) + right[1:], (right,), right[0]]
    return Kind(error, is_right, wrong, hangs=True)


def is_turn_of(order):
    """Whether a value is a turn number of an order."""
    return lambda value: isinstance(value, Turn) and value.order == order


def turning(order):
    """Integers without a common divisor above 1 with an order."""
    return Kind(
        errors.InvalidCount, lambda value: short_integer(value) and math.gcd(value, order) == 1,
        [0, order, -order, 2 * order, order * 10 ** 50, 10 ** 60 + 1, 1.5],
    )


def tables_of(order, low, high):
    """Tables of so many rows of integers within bounds."""
    row = (1,) * order
    wrong = [
        (row,) * (order - 1), (row,) * (order + 1), (row[1:],) * order, (row + (1,),) * order, [row] * order,
        (list(row),) * order, (row,) * (order - 1) + ((1,) * (order - 1) + (True,),),
        (row,) * (order - 1) + ((1,) * (order - 1) + (LONG,),), (row,) * (order - 1) + ((1,) * (order - 1) + ("1",),),
        (row,) * (order - 1) + ((1,) * (order - 1) + (low - 1,),), (row,) * (order - 1) + ((high + 1,) + row[1:],),
        (row,) * (order - 1) + ("a" * order,), (row,) * (order - 1) + (None,), row, (row,), ((),) * order,
    ]

    def is_right(value):
        return (
            type(value) is tuple and len(value) == order
            and all(type(line) is tuple and len(line) == order for line in value)
            and all(short_integer(entry) and low <= entry <= high for line in value for entry in line)
        )
    return Kind(errors.InvalidTable, is_right, wrong, hangs=True)


def indices_of(order):
    """Tuples of one to six indices."""
    def is_right(value):
        return (
            type(value) is tuple and 1 <= len(value) <= 6
            and all(plain_integer(index) and 0 <= index < order for index in value)
        )
    wrong = [(), (0,) * 7, (order,), (0, order), (0, -1), (True,), (1, False), [1], 1, "1", ("1",), (None,), ((1,),)]
    return Kind(errors.InvalidCharacter, is_right, wrong, hangs=True)


def is_any_table(value):
    """Whether a value is a tuple of 1 to 24 tuples of as many integers."""
    return (
        type(value) is tuple and 1 <= len(value) <= 24
        and all(type(row) is tuple and len(row) == len(value) for row in value)
        and all(short_integer(entry) for row in value for entry in row)
    )


SPLIT = Kind(errors.InvalidPaper, lambda value: False, [
    (), (1,), (1, (), ()), [1, ()], (1, []), (1, [(1, 1)]), (True, ()), (LONG, ()), ("1", ()), (None, ()), ((), 1),
    (1, ((1, 1),) * 7), (1, ((1, 2),)), (1, ((2, 1),)), (1, ((0, 1),)), (1, ((1, 0),)), (1, ((0, 0),)), (1, ((3, 1),)),
    (1, ((-1, -1),)), (1, ((1, 4),)), (1, ((1, True),)), (1, ([1, 1],)), (1, ((1,),)), (1, ((1, 1, 1),)), (1, (1, 1)),
    (1, ((1, 1), (1, 2))), (1, "11"), (1, ("11",)), (1, None), 1, (1, ((1, LONG),)),
])
TOTALS_OF_THREE = Kind(errors.InvalidTurn, lambda value: False, [
    TOTALS[:2], TOTALS + TOTALS[:1], list(TOTALS), (TOTALS[0], TOTALS[1], list(TOTALS[2])), TOTALS[0],
    (TOTALS[0], TOTALS[1], TOTALS[2][:2]), (TOTALS[0], TOTALS[1], TOTALS[2][:2] + ((1, 0),)),
    (TOTALS[0], TOTALS[1], TOTALS[2][:2] + (Turn(6, (1, 0)),)), (TOTALS[0], TOTALS[1], TOTALS[2][:2] + (1,)),
    (TOTALS[0], TOTALS[1], ()), (), ((),) * 3, (TOTALS[0], TOTALS[1], None), ((0,) * 3,) * 3,
], hangs=True)

ORDER = turn_orders()
A_TURN = objects_of(Turn, errors.InvalidTurn, [(5, (1, 2, 0, -1)), (1, 2, 0, -1), "1+2z-z^3 order 5", Turn])
A_CHARACTER = objects_of(Character, errors.InvalidCharacter, [1, (7, 3, 1), "character 1 of order 3 over 7", Character])
ENTRIES = tuples_of(4, errors.InvalidTurn, short_integer, 1)
PRIME = prime_to(997, [0, 1, 4, 9, 561, 10 ** 9 + 7, 10 ** 9 + 9, 999999937 * 2])
POWER = within(0, 60)
CHARACTER_ORDER = Kind(
    errors.InvalidOrder, lambda value: plain_integer(value) and 1 <= value <= 24, [0, 25, -3, 60, LONG], hangs=True,
)
VALUES = tuples_of(3, errors.InvalidOperation, short_integer, 1)
SUMS = tuples_of(3, errors.InvalidTurn, is_turn_of(3), Turn(3, (3, 0)))
SUMS.wrong.extend([(Turn(3, (3, 0)),) * 2 + (Turn(6, (3, 0)),), (Turn(1, (3,)),) * 3, (3, 3, 3)])
ANY_TABLE = Kind(errors.InvalidTable, is_any_table, tables_of(3, -LONG, LONG - 1).wrong + [
    ((0,) * 25,) * 25, ((0,) * 26,) * 26, (), ((),), ((0, 0),), ((0,), (0,)), ((True,),), [[0]], ([0],), 0,
])
OF_SEVEN = orders_of(7)
OF_THIRTEEN = orders_of(13)
MULTIPLE = turn_orders(lambda order: order % 5 == 0)
DIVISOR = turn_orders(lambda order: 12 % order == 0)
LESSER = Kind(
    errors.InvalidOrder, lambda value: plain_integer(value) and value >= 1 and 3 % value == 0, [0, -1, -3, 2, 6, 9],
)
WIDER = Kind(errors.InvalidOrder, lambda value: plain_integer(value) and value in (4, 12), [1, 2, 3, 6, 8, 24, 0, -4])
INDICES = indices_of(3)

CALLS = (
    (turns.cyclotomic, ((ORDER, 12),)),
    (Turn, ((ORDER, 5), (ENTRIES, (1, 2, 0, -1)))),
    (Turn.power, ((ORDER, 12), (ANY, -7))),
    (Turn.whole, ((ORDER, 12), (ANY, -7))),
    (TURN.plus, ((A_TURN, OTHER),)),
    (TURN.minus, ((A_TURN, OTHER),)),
    (TURN.times, ((A_TURN, OTHER),)),
    (TURN.divided, ((A_TURN, OTHER),)),
    (TURN.scaled, ((ANY, -3),)),
    (TURN.raised, ((POWER, 7),)),
    (TURN.turned, ((turning(5), -2),)),
    (TWELVE.turned, ((turning(12), 35),)),
    (SIX.turned, ((turning(6), 5),)),
    (TURN.content, ((PRIME, 3),)),
    (TURN.lifted, ((MULTIPLE, 60),)),
    (TWELVE.lowered, ((DIVISOR, 3),)),
    (Character, ((A_FIELD, THIRTEEN), (OF_THIRTEEN, 4), (within(0, 3), 3))),
    (CHARACTER.value_at, ((elements(13), 12),)),
    (CHARACTER.times, ((A_CHARACTER, Character(THIRTEEN, 4, 2)),)),
    (CHARACTER.raised, ((ANY, -3),)),
    (CHARACTER.widened, ((WIDER, 12),)),
    (characters.characters, ((A_FIELD, THIRTEEN), (OF_THIRTEEN, 4))),
    (characters.total_of, ((A_CHARACTER, CHARACTER),)),
    (characters.count_roots, ((A_FIELD, SEVEN), (within(1, LONG - 1), 3), (elements(7), 6))),
    (characters.class_sums, ((CHARACTER_ORDER, 3), (VALUES, (2, -1, 0)))),
    (characters.class_values, ((CHARACTER_ORDER, 3), (SUMS, (Turn(3, (3, 0)),) * 3))),
    (tables.class_table, ((A_FIELD, SEVEN), (OF_SEVEN, 3))),
    (tables.orbits, ((A_FIELD, SEVEN), (OF_SEVEN, 3))),
    (tables.turned_table, ((ANY_TABLE, TABLE), (turning(3), 2))),
    (tables.lesser_table, ((ANY_TABLE, TABLE), (LESSER, 1))),
    (tables.is_table_of, ((A_FIELD, SEVEN), (OF_SEVEN, 3), (None, TABLE))),
    (tables.turning_unit, ((A_FIELD, SEVEN), (OF_SEVEN, 3), (None, TABLE))),
    (tables.sums_hold, ((A_FIELD, SEVEN), (OF_SEVEN, 3), (tables_of(3, 1 - LONG, LONG - 1), TABLE))),
    (tables.rules_hold, ((A_FIELD, SEVEN), (OF_SEVEN, 3), (tables_of(3, 1 - LONG, LONG - 1), TABLE))),
    (tables.pairs_adding, ((A_FIELD, THIRTEEN), (OF_THIRTEEN, 4), (within(0, 3), 1), (within(0, 3), 3))),
    (totals.jacobi, ((A_FIELD, SEVEN), (OF_SEVEN, 3), (INDICES, (1, 2, 1)))),
    (totals.is_jacobi, ((A_FIELD, SEVEN), (OF_SEVEN, 3), (INDICES, (1, 2, 1)), (None, TURN))),
    (totals.jacobi_split, ((A_FIELD, SEVEN), (OF_SEVEN, 3), (INDICES, (1, 2, 1)))),
    (totals.split_value, ((A_FIELD, SEVEN), (OF_SEVEN, 3), (SPLIT, (-1, ((1, 1),) * 6)))),
    (totals.all_totals, ((A_FIELD, SEVEN), (OF_SEVEN, 3))),
    (totals.totals_by_table, ((A_FIELD, SEVEN), (OF_SEVEN, 3), (tables_of(3, 0, 512), TABLE))),
    (totals.table_by_totals, ((A_FIELD, SEVEN), (OF_SEVEN, 3), (TOTALS_OF_THREE, TOTALS))),
    (totals.are_totals, ((A_FIELD, SEVEN), (OF_SEVEN, 3), (None, TOTALS))),
)

THEN = (
    (TURN.plus, (SIX,), errors.InvalidOperation, None),
    (TURN.minus, (Turn(10, (1, 2, 0, -1)),), errors.InvalidOperation, None),
    (TURN.times, (TWELVE,), errors.InvalidOperation, None),
    (TURN.divided, (TWELVE,), errors.InvalidOperation, None),
    (TURN.divided, (Turn(12, (0, 0, 0, 0)),), errors.InvalidOperation, None),
    (TURN.divided, (ZERO,), errors.InvalidOperation, None),
    (ZERO.content, (3,), errors.InvalidOperation, None),
    (CHARACTER.times, (Character(THIRTEEN, 12, 1),), errors.InvalidOperation, None),
    (CHARACTER.times, (Character(Field(5), 4, 1),), errors.InvalidOperation, None),
    (CHARACTER.times, (CUBE,), errors.InvalidOperation, None),
    (characters.class_values, (3, (Turn(3, (1, 0)), Turn(3, (3, 0)), Turn(3, (3, 0)))), errors.InvalidOperation, None),
    (characters.class_values, (3, (Turn(3, (0, 3)),) * 3), errors.InvalidOperation, None),
    (totals.table_by_totals, (SEVEN, 3, ((Turn(3, (1, 0)), Turn(3, (1, 0)), Turn(3, (2, 0))),) * 3), errors.InvalidOperation, None),
    (totals.table_by_totals, (SEVEN, 3, ((Turn(3, (0, 9)),) * 3,) * 3), errors.InvalidOperation, None),
)

SEQUENCES = (
    (Turn, (61, (1,)), errors.InvalidOrder, None),
    (Turn, (0, ()), errors.InvalidOrder, None),
    (Turn, (True, (1,)), errors.InvalidOrder, None),
    (Turn, (60, (0,) * 15), errors.InvalidTurn, None),
    (Turn, (60, (0,) * 17), errors.InvalidTurn, None),
    (Turn, (59, (0,) * 59), errors.InvalidTurn, None),
    (Turn, (1, ()), errors.InvalidTurn, None),
    (Turn, (1, (10 ** 60,)), errors.InvalidTurn, None),
    (Turn, (2, (-(10 ** 60),)), errors.InvalidTurn, None),
    (Turn, (2, (True,)), errors.InvalidTurn, None),
    (Turn, (2, [1]), errors.InvalidTurn, None),
    (Turn.power, (61, None), errors.InvalidOrder, None),
    (Turn.power, (60, True), errors.InvalidCount, True),
    (Turn.whole, (0, LONG), errors.InvalidOrder, None),
    (Turn.whole, (1, LONG), errors.InvalidCount, LONG),
    (turns.cyclotomic, (61,), errors.InvalidOrder, None),
    (turns.cyclotomic, (0,), errors.InvalidOrder, None),
    (TURN.raised, (61,), errors.InvalidCount, 61),
    (TURN.raised, (-1,), errors.InvalidCount, -1),
    (TURN.turned, (0,), errors.InvalidCount, 0),
    (TURN.turned, (-5,), errors.InvalidCount, -5),
    (Turn(1, (3,)).turned, (0,), None, None),
    (Turn(1, (3,)).turned, (True,), errors.InvalidCount, True),
    (Turn(2, (3,)).turned, (4,), errors.InvalidCount, 4),
    (ZERO.content, (4,), errors.InvalidPrime, None),
    (TURN.content, (999999937,), None, None),
    (TURN.content, (1000000007,), errors.InvalidPrime, None),
    (TURN.lifted, (6,), errors.InvalidOrder, None),
    (TURN.lifted, (65,), errors.InvalidOrder, None),
    (TURN.lifted, (1,), errors.InvalidOrder, None),
    (TWELVE.lowered, (24,), errors.InvalidOrder, None),
    (TWELVE.lowered, (5,), errors.InvalidOrder, None),
    (Character, (SEVEN, 4, 9), errors.InvalidOrder, None),
    (Character, (7, 4, 9), errors.InvalidField, None),
    (Character, (SEVEN, 6, 6), errors.InvalidCount, 6),
    (Character, (SEVEN, 1, 1), errors.InvalidCount, 1),
    (Character, (SEVEN, 2, True), errors.InvalidCount, True),
    (Character, (Field(31), 30, 0), errors.InvalidOrder, None),
    (Character, (TWENTY_FIVE, 24, 24), errors.InvalidCount, 24),
    (CUBE.widened, (12,), errors.InvalidOrder, None),
    (CUBE.widened, (2,), errors.InvalidOrder, None),
    (characters.count_roots, (SEVEN, 0, 7), errors.InvalidCount, 0),
    (characters.count_roots, (SEVEN, LONG, 7), errors.InvalidCount, LONG),
    (characters.count_roots, (SEVEN, 1, 7), errors.InvalidElement, None),
    (characters.class_sums, (25, ()), errors.InvalidOrder, None),
    (characters.class_sums, (24, (0,) * 23), errors.InvalidOperation, None),
    (characters.class_values, (25, (Turn(25, (0,) * 20),) * 25), errors.InvalidOrder, None),
    (characters.class_values, (2, (Turn(2, (1,)), Turn(1, (1,)))), errors.InvalidTurn, None),
    (characters.class_values, (2, (Turn(2, (1,)), Turn(2, (2,)))), errors.InvalidOperation, None),
    (tables.class_table, (7, 4), errors.InvalidField, None),
    (tables.class_table, (Field(53), 26), errors.InvalidOrder, None),
    (tables.is_table_of, (SEVEN, 4, TABLE), errors.InvalidOrder, None),
    (tables.turning_unit, (SEVEN, 0, TABLE), errors.InvalidOrder, None),
    (tables.turned_table, (((0,) * 25,) * 25, 0), errors.InvalidTable, None),
    (tables.turned_table, (((0,) * 24,) * 24, 3), errors.InvalidCount, 3),
    (tables.turned_table, (TABLE, 6), errors.InvalidCount, 6),
    (tables.turned_table, (((0,),), 0), None, None),
    (tables.turned_table, (((0,),), False), errors.InvalidCount, False),
    (tables.lesser_table, ((), 1), errors.InvalidTable, None),
    (tables.lesser_table, (TABLE, 2), errors.InvalidOrder, None),
    (tables.lesser_table, (TABLE, 0), errors.InvalidOrder, None),
    (tables.lesser_table, (TABLE, True), errors.InvalidOrder, None),
    (tables.sums_hold, (SEVEN, 2, TABLE), errors.InvalidTable, None),
    (tables.rules_hold, (SEVEN, 6, TABLE), errors.InvalidTable, None),
    (tables.rules_hold, (SEVEN, 4, TABLE), errors.InvalidOrder, None),
    (tables.pairs_adding, (SEVEN, 3, 3, -1), errors.InvalidCount, 3),
    (tables.pairs_adding, (SEVEN, 3, 2, -1), errors.InvalidCount, -1),
    (tables.pairs_adding, (SEVEN, 3, True, 3), errors.InvalidCount, True),
    (totals.jacobi, (SEVEN, 4, (4,)), errors.InvalidOrder, None),
    (totals.jacobi, (SEVEN, 3, ()), errors.InvalidCharacter, None),
    (totals.jacobi, (SEVEN, 3, (0,) * 7), errors.InvalidCharacter, None),
    (totals.jacobi, (SEVEN, 3, (1, 3)), errors.InvalidCharacter, None),
    (totals.jacobi, (SEVEN, 3, (1, -1)), errors.InvalidCharacter, None),
    (totals.jacobi, (SEVEN, 3, (True,)), errors.InvalidCharacter, None),
    (totals.is_jacobi, (SEVEN, 3, (3,), TURN), errors.InvalidCharacter, None),
    (totals.split_value, (SEVEN, 4, None), errors.InvalidOrder, None),
    (totals.totals_by_table, (SEVEN, 3, ((0, 0, 513),) * 3), errors.InvalidTable, None),
    (totals.totals_by_table, (SEVEN, 3, ((0, 0, -1),) * 3), errors.InvalidTable, None),
    (totals.totals_by_table, (SEVEN, 2, TABLE), errors.InvalidTable, None),
    (totals.totals_by_table, (SEVEN, 4, None), errors.InvalidOrder, None),
    (totals.table_by_totals, (SEVEN, 2, TOTALS), errors.InvalidTurn, None),
    (totals.table_by_totals, (SEVEN, 6, TOTALS), errors.InvalidTurn, None),
    (totals.are_totals, (SEVEN, 5, TOTALS), errors.InvalidOrder, None),
    (totals.are_totals, (None, 5, TOTALS), errors.InvalidField, None),
)

RIGHT = (
    (Turn, (60, (LONG - 1,) * 16)), (Turn, (1, (1 - LONG,))), (Turn, (2, (0,))), (turns.cyclotomic, (60,)),
    (turns.cyclotomic, (1,)), (Turn.power, (60, 1 - LONG)), (Turn.whole, (60, LONG - 1)), (ZERO.raised, (0,)),
    (TURN.raised, (60,)), (TURN.scaled, (LONG - 1,)), (TURN.lifted, (5,)), (TURN.lifted, (60,)), (TURN.lowered, (1,)),
    (TURN.lowered, (5,)), (TURN.turned, (1 - 10 ** 59,)), (Character, (Field(2), 1, 0)),
    (Character, (TWENTY_FIVE, 24, 23)), (CUBE.widened, (3,)), (CUBE.widened, (6,)), (CUBE.raised, (LONG - 1,)),
    (characters.count_roots, (SEVEN, LONG - 1, 0)), (characters.class_sums, (24, (LONG - 1,) * 24)),
    (tables.class_table, (Field(2), 1)), (tables.class_table, (TWENTY_FIVE, 24)), (tables.orbits, (TWENTY_FIVE, 24)),
    (tables.turned_table, (((0,) * 24,) * 24, 5)), (tables.lesser_table, (((0,) * 24,) * 24, 24)),
    (tables.lesser_table, (((LONG - 1,) * 24,) * 24, 1)), (totals.jacobi, (SEVEN, 3, (2,) * 6)),
    (totals.jacobi, (Field(2), 1, (0,))), (totals.split_value, (SEVEN, 3, (1 - LONG, ()))),
    (totals.totals_by_table, (SEVEN, 3, ((512,) * 3,) * 3)), (totals.totals_by_table, (SEVEN, 1, ((0,),))),
    (totals.table_by_totals, (SEVEN, 1, ((Turn(1, (512,)),),))),
    (totals.table_by_totals, (SEVEN, 1, ((Turn(1, (LONG - 1,)).scaled(LONG - 1),),))),
)


class TurnStages(Refusals, unittest.TestCase):
    CALLS = CALLS
    THEN = THEN
    SEQUENCES = SEQUENCES
    RIGHT = RIGHT

    def test_values_are_judged_behind_the_errors(self):
        for value in all_kinds():
            for judge in (tables.is_table_of, totals.are_totals):
                self.assertIn(judge(SEVEN, 3, value), (True, False))
                assert_raises(self, errors.InvalidOrder, None, judge, SEVEN, 5, value)
                assert_raises(self, errors.InvalidField, None, judge, 7, 5, value)
            self.assertIn(totals.is_jacobi(SEVEN, 3, (1,), value), (True, False))
            assert_raises(self, errors.InvalidCharacter, None, totals.is_jacobi, SEVEN, 3, (3,), value)
            self.assertIsNone(raised_by(tables.turning_unit, SEVEN, 3, value))

    def test_made_objects_are_let_whatever_their_length(self):
        long = Turn(3, (LONG - 1, 3)).raised(9)
        self.assertIsNone(raised_by(long.times, long))
        self.assertIsNone(raised_by(characters.class_values, 1, (Turn(1, (LONG - 1,)).raised(9),)))
        assert_raises(self, errors.InvalidTurn, None, Turn, 3, long.entries)


if __name__ == "__main__":
    unittest.main()
