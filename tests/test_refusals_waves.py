"""Wrong arguments of the stages 11 to 14: each error, what it keeps, and which one is first ([0.4], [0.7])."""

import math
import unittest

import carryturns.carry.carries as carries
import carryturns.errors as errors
import carryturns.ideal.ideals as ideals
import carryturns.place.places as places
import carryturns.wave.waves as waves
from carryturns.field.fields import Field
from carryturns.ideal.ideals import Ideal, ideal_of, ideal_of_place, whole_ideal
from carryturns.place.places import Place
from carryturns.turn.turns import Turn
from carryturns.wave.waves import Wave, gauss
from tests.kinds import A_FIELD, LONG, Kind, Refusals, elements, objects_of, orders_of, prime_to, within
from tests.support import all_kinds, assert_raises, plain_integer, raised_by, short_integer
from tests.test_refusals_turns import A_TURN, turning

FIVE, SEVEN, EIGHT, NINE, THIRTEEN = Field(5), Field(7), Field(2, 3), Field(3, 2), Field(13)
GREAT = Field(23)
UNITS_UP_TO_EIGHT = (1, 2, 3, 4, 5, 6, 7, 8, 9, 10, 12, 14, 15, 16, 18, 20, 24, 30)


def orders_in(told, wrong):
    """Orders out of a tuple."""
    return Kind(errors.InvalidOrder, lambda value: plain_integer(value) and value in told, wrong, hangs=True)


def index_below(order, low=0):
    """Indices of characters."""
    def is_right(value):
        return plain_integer(value) and low <= value < order
    return Kind(errors.InvalidCharacter, is_right, [low - 1, order, -order], hangs=True)


def index_tuples(order, most):
    """Tuples of so many indices at most."""
    def is_right(value):
        return (
            type(value) is tuple and 1 <= len(value) <= most
            and all(plain_integer(index) and 0 <= index < order for index in value)
        )
    wrong = [(), (1,) * (most + 1), (order,), (0, order), (1, -1), (True,), (1, False), [1], "1", ("1",), ((1,),)]
    return Kind(errors.InvalidCharacter, is_right, wrong, hangs=True)


def primes_in(told, wrong):
    """Prime numbers out of a tuple."""
    return Kind(errors.InvalidPrime, lambda value: plain_integer(value) and value in told, wrong)


ONE = gauss(FIVE, 4, 1)
OTHER_PRIME = gauss(THIRTEEN, 4, 1)
OTHER_ORDER = gauss(FIVE, 2, 1)
FOUR_TURNS = ONE.entries
PLACE = Place(3, 7, (3, 1))
GREAT_PLACE = places.places(59, 2)[0]
TWELFTH = places.places(13, 2)[0]
IDEAL = Ideal(4, ((1, 2), (0, 5)))
SOME = Turn(3, (3, 1))
ZERO = Turn(3, (0, 0))

WAVE_PRIMES = (2, 3, 5, 7, 11, 13, 17, 19)
WAVE_ORDER = orders_in(tuple(range(1, 13)), [0, -1, 13, 24, 60])
WAVE_PRIME = primes_in(WAVE_PRIMES, [0, 1, 4, 9, 15, 23, 29, 509, 10 ** 9 + 7])
WAVE_ENTRIES = Kind(errors.InvalidWave, lambda value: False, [
    FOUR_TURNS[:3], FOUR_TURNS + FOUR_TURNS[:1], list(FOUR_TURNS), FOUR_TURNS[:3] + (1,), FOUR_TURNS[:3] + (None,),
    FOUR_TURNS[:3] + (Turn(2, (1,)),), FOUR_TURNS[:3] + (Turn(12, (1, 0, 0, 0)),), FOUR_TURNS[:3] + (ONE,),
    FOUR_TURNS[:3] + ((1, 0),), FOUR_TURNS[0], ONE, ((1, 0),) * 4,
])
A_WAVE = objects_of(Wave, errors.InvalidWave, [FOUR_TURNS, "wave of order 4 over 5", FOUR_TURNS[0], Wave])
FACTOR = Kind(
    errors.InvalidTurn, lambda value: isinstance(value, Turn) or short_integer(value), [FOUR_TURNS, (1, 0), ONE, Turn],
)
ORDER_OF_FIVE = orders_in((1, 2, 4), [0, 3, 5, 8, 12, 13, -4])
ORDER_OF_SEVEN = orders_in((1, 2, 3, 6), [0, 4, 7, 12, 13, -3])
PART = Kind(errors.InvalidCount, lambda value: plain_integer(value) and value in (1, 2, 4), [0, 3, 8, -1, -2, 5])
A_PLACE = objects_of(Place, errors.InvalidPlace, [(3, 1), "place (3, 1) over 7 order 3", IDEAL, Place])
POLY = Kind(errors.InvalidPlace, lambda value: value in ((3, 1), (5, 1)), [
    (), (1,), (3,), (1, 1), (2, 1), (4, 1), (0, 1), (6, 1), (10, 1), (-4, 1), (3, 2), (3, 1, 0), (1, 1, 1), [3, 1],
    (3, True), (True, 1), ("3", 1), (None, 1), (3, 8), (LONG, 1), (3, 1 + LONG), 3, ((3, 1),), {3: 1}, (3, 0), (6, 2),
], hangs=True)
TURN_ORDER = orders_in(tuple(range(1, 61)), [0, -1, 61, 120])
PLACE_PRIME = prime_to(511, [0, 1, 4, 511, 512, 521, 529, 10 ** 9 + 7])
RANK = orders_in(UNITS_UP_TO_EIGHT, [0, -1, 11, 13, 17, 21, 28, 36, 40, 48, 60, 61])
ROWS = Kind(errors.InvalidIdeal, lambda value: False, [
    (), ((1, 2),), ((1, 1), (0, 5)), ((1, 2), (0, 5), (0, 1)), ((1, 2), (1, 5)), ((1, 7), (0, 5)), ((1, -3), (0, 5)),
    ((1, 5), (0, 5)), ((0, 0), (0, 5)), ((1, 2), (0, 0)), ((-1, 2), (0, 5)), ((1, 2), (0, -5)), [(1, 2), (0, 5)],
    ([1, 2], [0, 5]), ((1, 2), (0, 5, 0)), ((1, 2), (0, "5")), ((True, 2), (0, 5)), ((1, 2), (False, 5)),
    ((LONG, 0), (0, LONG)), ((1, 0), (0, 5)), ((1, 3), (0, 4)), ((2, 0), (0, 1)), IDEAL, ((1, None), (0, 5)),
], hangs=True)
AN_IDEAL = objects_of(Ideal, errors.InvalidIdeal, [IDEAL.rows, "1 2/0 5 of order 4", PLACE, Turn(4, (1, 2)), Ideal])
MEMBERS = Kind(errors.InvalidTurn, lambda value: value == (Turn(3, (1, 0)),), [
    (), (SOME,) * 9, [SOME], SOME, (SOME, Turn(6, (1, 0))), (Turn(4, (1, 2)),), (SOME, 1), (SOME, None), ((3, 1),),
], hangs=True)
TWO_WAVES, TWO_IDEALS = (ONE.plus, ONE.minus, ONE.times), (IDEAL.multiplied, IDEAL.joined, IDEAL.shared, IDEAL.parted, IDEAL.is_within)
EXPONENT = within(0, 5)

CALLS = (
    (Wave, ((WAVE_ORDER, 4), (WAVE_PRIME, 5), (WAVE_ENTRIES, FOUR_TURNS))),
    *[(call, ((A_WAVE, ONE),)) for call in TWO_WAVES],
    (ONE.scaled, ((FACTOR, Turn(4, (1, 2))),)),
    (ONE.raised, ((within(0, 24), 24),)),
    (ONE.moved, ((within(1, 4), 4),)),
    (ONE.turned, ((turning(4), -3),)),
    (waves.gauss, ((A_FIELD, FIVE), (ORDER_OF_FIVE, 4), (index_below(4), 1))),
    (waves.gauss_at, ((A_FIELD, FIVE), (ORDER_OF_FIVE, 4), (index_below(4), 1), (elements(5), 2))),
    (waves.gauss_product, ((A_FIELD, FIVE), (ORDER_OF_FIVE, 4), (index_tuples(4, 12), (1, 2)))),
    (waves.jacobi_by_gauss, ((A_FIELD, FIVE), (ORDER_OF_FIVE, 4), (index_tuples(4, 6), (1, 2)))),
    (waves.product_sides, ((A_FIELD, FIVE), (ORDER_OF_FIVE, 4), (index_below(4), 1), (PART, 2))),
    (waves.gauss_above, ((A_FIELD, FIVE), (ORDER_OF_FIVE, 4), (index_below(4), 1), (within(1, 12), 2))),
    (waves.gauss_power, ((A_FIELD, FIVE), (ORDER_OF_FIVE, 4), (index_below(4), 1))),
    (carries.carries_of, ((A_FIELD, SEVEN), (EXPONENT, 4), (EXPONENT, 5))),
    (carries.count_carries, ((A_FIELD, SEVEN), (EXPONENT, 4), (EXPONENT, 5))),
    (carries.rest_of, ((A_FIELD, SEVEN), (orders_of(7), 3), (index_below(3), 2), (within(1, 2, hangs=True), 2))),
    (carries.carry_row, ((A_FIELD, SEVEN), (orders_of(7), 3), (index_below(3), 1), (index_below(3), 1))),
    (carries.least_carries, ((A_FIELD, SEVEN), (orders_of(7), 3), (index_below(3), 1), (index_below(3), 1))),
    (carries.binomial_left, ((A_FIELD, SEVEN), (orders_of(7), 3), (index_below(3), 1), (index_below(3), 1))),
    (carries.left_at_generator, ((A_FIELD, SEVEN), (A_TURN, SOME))),
    (carries.prime_power_in, ((A_FIELD, SEVEN), (A_TURN, SOME))),
    (Place, ((TURN_ORDER, 3), (PLACE_PRIME, 7), (POLY, (3, 1)))),
    (PLACE.leaves, ((A_TURN, SOME),)),
    (PLACE.symbol, ((A_TURN, SOME),)),
    (PLACE.times_of, ((A_TURN, SOME),)),
    (PLACE.turned_by, ((turning(3), -1),)),
    (places.places, ((TURN_ORDER, 60), (PLACE_PRIME, 7))),
    (places.count_places, ((TURN_ORDER, 60), (PLACE_PRIME, 7))),
    (places.place_of_field, ((A_FIELD, SEVEN), (orders_of(7), 3))),
    (places.left_element, ((A_FIELD, SEVEN), (A_TURN, SOME))),
    (places.turning_to, ((A_PLACE, PLACE), (A_PLACE, Place(3, 7, (5, 1))))),
    (Ideal, ((RANK, 4), (ROWS, ((1, 2), (0, 5))))),
    *[(call, ((AN_IDEAL, Ideal(4, ((1, 3), (0, 5)))),)) for call in TWO_IDEALS],
    (IDEAL.lifted_by, ((within(0, 20), 20),)),
    (IDEAL.moved, ((turning(4), -1),)),
    (ideals.whole_ideal, ((RANK, 30),)),
    (ideals.ideal_of, ((RANK, 3), (MEMBERS, (SOME, ZERO)))),
    (ideals.ideal_of_place, ((A_PLACE, PLACE),)),
    (ideals.places_in, ((AN_IDEAL, IDEAL),)),
    (ideals.is_maker, ((AN_IDEAL, IDEAL), (None, SOME))),
    (ideals.jacobi_ideal, ((A_FIELD, SEVEN), (orders_of(7), 3), (index_below(3, 1), 1), (index_below(3, 1), 1))),
    (ideals.is_only_total, (
        (A_FIELD, SEVEN), (orders_of(7), 3), (index_below(3, 1), 1), (index_below(3, 1), 1), (None, SOME),
    )),
)

ALL_PLACES_IN = (
    # A size that goes together with the order is ahead of the others, and so is one above 10 ** 12.
    (ideals.places_in, (ideal_of(4, (Turn(4, (1, 1)),)),), errors.InvalidOperation, None),
    (ideals.places_in, (ideal_of(4, (Turn(4, (10 ** 20, 0)),)),), errors.InvalidOperation, None),
    (ideals.places_in, (ideal_of(4, (Turn(4, (10 ** 6 + 3, 0)),)),), errors.TooMany, 10 ** 12),
    (ideals.places_in, (ideal_of(2, (Turn(2, (2 * (10 ** 12 + 1),)),)),), errors.InvalidOperation, None),
    (ideals.places_in, (ideal_of(2, (Turn(2, (10 ** 12 + 1,)),)),), errors.TooMany, 10 ** 12),
    (ideals.places_in, (ideal_of(1, (Turn(1, (10 ** 12,)),)),), None, None),
    (ideals.places_in, (ideal_of(1, (Turn(1, (10 ** 12 + 1,)),)),), errors.TooMany, 10 ** 12),
    (ideals.places_in, (ideal_of(1, (Turn(1, (521,)),)),), errors.TooMany, 512),
    (ideals.places_in, (ideal_of(1, (Turn(1, (509 * 521,)),)),), errors.TooMany, 512),
    (ideals.places_in, (ideal_of(1, (Turn(1, (509 ** 4,)),)),), None, None),
    (ideals.places_in, (ideal_of(1, (Turn(1, (509 ** 5,)),)),), errors.TooMany, 10 ** 12),
)

THEN = (
    (Wave, (5, 5, (Turn(5, (0,) * 4),) * 4), errors.InvalidOperation, None),
    (Wave, (12, 2, (Turn(12, (0,) * 4),)), errors.InvalidOperation, None),
    (Wave, (12, 3, (Turn(12, (0,) * 4),) * 2), errors.InvalidOperation, None),
    (Wave, (7, 7, (Turn(7, (0,) * 6),) * 6), errors.InvalidOperation, None),
    *[(call, (other,), errors.InvalidOperation, None) for call in TWO_WAVES for other in (OTHER_PRIME, OTHER_ORDER)],
    (ONE.scaled, (Turn(2, (1,)),), errors.InvalidOperation, None),
    (ONE.scaled, (Turn(8, (1, 0, 0, 0)),), errors.InvalidOperation, None),
    (ONE.as_turn, (), errors.InvalidOperation, None),
    (waves.gauss, (GREAT, 11, 1), errors.InvalidOperation, None),
    (waves.gauss_product, (GREAT, 11, (1, 2)), errors.InvalidOperation, None),
    (waves.jacobi_by_gauss, (GREAT, 11, (1, 2)), errors.InvalidOperation, None),
    (waves.jacobi_by_gauss, (FIVE, 4, (1, 3)), errors.InvalidOperation, None),
    (waves.jacobi_by_gauss, (FIVE, 4, (0,)), errors.InvalidOperation, None),
    (waves.jacobi_by_gauss, (FIVE, 1, (0, 0)), errors.InvalidOperation, None),
    (waves.product_sides, (GREAT, 11, 1, 11), errors.InvalidOperation, None),
    (waves.gauss_above, (GREAT, 11, 1, 12), errors.InvalidOperation, None),
    (waves.gauss_power, (GREAT, 11, 10), errors.InvalidOperation, None),
    *[
        (call, (SEVEN, 3, *pair), errors.InvalidOperation, None)
        for call in (carries.least_carries, carries.binomial_left) for pair in ((0, 1), (1, 0), (0, 0), (1, 2), (2, 1))
    ],
    (carries.least_carries, (FIVE, 1, 0, 0), errors.InvalidOperation, None),
    (carries.left_at_generator, (SEVEN, Turn(4, (1, 2))), errors.InvalidOrder, None),
    (carries.left_at_generator, (Field(53), Turn(26, (0,) * 12)), errors.InvalidOrder, None),
    (places.left_element, (SEVEN, Turn(4, (1, 2))), errors.InvalidOrder, None),
    (places.left_element, (Field(31), Turn(30, (0,) * 8)), errors.InvalidOrder, None),
    *[
        (call, (turn,), errors.InvalidOperation, None) for call in (PLACE.leaves, PLACE.symbol, PLACE.times_of)
        for turn in (Turn(6, (3, 1)), Turn(1, (0,)), Turn(9, (0,) * 6))
    ],
    (PLACE.times_of, (ZERO,), errors.InvalidOperation, None),
    (GREAT_PLACE.symbol, (Turn.whole(59, 1),), errors.TooMany, 12),
    (GREAT_PLACE.symbol, (Turn.whole(59, 0),), errors.TooMany, 12),
    (GREAT_PLACE.times_of, (Turn.whole(59, 1),), errors.TooMany, 12),
    (GREAT_PLACE.times_of, (Turn.whole(59, 0),), errors.InvalidOperation, None),
    (GREAT_PLACE.symbol, (SOME,), errors.InvalidOperation, None),
    (places.places(17, 3)[0].symbol, (Turn.whole(17, 2),), errors.TooMany, 12),
    (places.places(53, 13)[0].symbol, (Turn.whole(53, 2),), errors.TooMany, 12),
    (places.places(53, 13)[0].times_of, (Turn.whole(53, 2),), errors.TooMany, 12),
    (places.places(53, 13)[0].times_of, (Turn.whole(53, 0),), errors.InvalidOperation, None),
    (places.places, (6, 3), errors.InvalidOperation, None),
    (places.count_places, (60, 5), errors.InvalidOperation, None),
    (places.turning_to, (PLACE, Place(3, 13, (4, 1))), errors.InvalidOperation, None),
    (places.turning_to, (PLACE, Place(6, 7, (2, 1))), errors.InvalidOperation, None),
    *[(call, (whole_ideal(order),), errors.InvalidOperation, None) for call in TWO_IDEALS for order in (1, 8, 12)],
    (ideals.ideal_of, (3, (ZERO,)), errors.InvalidOperation, None),
    (ideals.ideal_of, (3, (ZERO,) * 8), errors.InvalidOperation, None),
    (ideals.ideal_of_place, (TWELFTH,), errors.InvalidOperation, None),
    (ideals.ideal_of_place, (GREAT_PLACE,), errors.InvalidOperation, None),
    (ideals.jacobi_ideal, (SEVEN, 3, 1, 2), errors.InvalidOperation, None),
    (ideals.jacobi_ideal, (SEVEN, 2, 1, 1), errors.InvalidOperation, None),
    (ideals.is_only_total, (SEVEN, 3, 2, 1, SOME), errors.InvalidOperation, None),
    (ideals.is_only_total, (SEVEN, 6, 1, 1, SOME), errors.InvalidOperation, None),
    (ideals.is_only_total, (Field(19), 9, 1, 1, SOME), errors.InvalidOperation, None),
    (ideals.is_only_total, (Field(17), 4, 1, 1, SOME), errors.InvalidOperation, None),
    *ALL_PLACES_IN,
)

SEQUENCES = (
    (Wave, (13, 2, ()), errors.InvalidOrder, None),
    (Wave, (12, 23, ()), errors.InvalidPrime, None),
    (Wave, (0, 4, None), errors.InvalidOrder, None),
    (Wave, (True, 2, (Turn(1, (1,)),)), errors.InvalidOrder, None),
    (Wave, (1, True, (Turn(1, (1,)),)), errors.InvalidPrime, None),
    (Wave, (4, 2, ()), errors.InvalidWave, None),
    (Wave, (4, 2, (Turn(2, (1,)),)), errors.InvalidWave, None),
    (Wave, (5, 5, (Turn(5, (0,) * 4),) * 3), errors.InvalidWave, None),
    (ONE.scaled, (True,), errors.InvalidTurn, None),
    (ONE.scaled, (LONG,), errors.InvalidTurn, None),
    (ONE.scaled, (LONG - 1,), None, None),
    (ONE.raised, (25,), errors.InvalidCount, 25),
    (ONE.raised, (-1,), errors.InvalidCount, -1),
    (ONE.moved, (0,), errors.InvalidCount, 0),
    (ONE.moved, (5,), errors.InvalidCount, 5),
    (ONE.turned, (2,), errors.InvalidCount, 2),
    (gauss(Field(2), 1, 0).moved, (2,), errors.InvalidCount, 2),
    (waves.gauss, (5, 3, 3), errors.InvalidField, None),
    (waves.gauss, (GREAT, 22, 22), errors.InvalidOrder, None),
    (waves.gauss, (GREAT, 3, 22), errors.InvalidOrder, None),
    (waves.gauss, (GREAT, 11, 11), errors.InvalidCharacter, None),
    (waves.gauss, (Field(5, 2), 24, 0), errors.InvalidOrder, None),
    (waves.gauss_at, (GREAT, 11, 11, 23), errors.InvalidCharacter, None),
    (waves.gauss_at, (GREAT, 11, 10, 23), errors.InvalidElement, None),
    (waves.gauss_at, (GREAT, 11, 10, 22), errors.InvalidOperation, None),
    (waves.gauss_at, (FIVE, 4, 1, False), errors.InvalidElement, None),
    (waves.gauss_product, (GREAT, 11, (11,)), errors.InvalidCharacter, None),
    (waves.gauss_product, (GREAT, 11, (0,) * 13), errors.InvalidCharacter, None),
    (waves.gauss_product, (FIVE, 4, (0,) * 12), None, None),
    (waves.jacobi_by_gauss, (GREAT, 11, (0,) * 7), errors.InvalidCharacter, None),
    (waves.product_sides, (GREAT, 11, 11, 2), errors.InvalidCharacter, None),
    (waves.product_sides, (GREAT, 11, 1, 2), errors.InvalidCount, 2),
    (waves.product_sides, (FIVE, 4, 1, 3), errors.InvalidCount, 3),
    (waves.product_sides, (FIVE, 4, 1, -2), errors.InvalidCount, -2),
    (waves.gauss_above, (GREAT, 11, 1, 13), errors.InvalidCount, 13),
    (waves.gauss_above, (GREAT, 11, 11, 13), errors.InvalidCharacter, None),
    (carries.carries_of, (7, 6, 6), errors.InvalidField, None),
    (carries.carries_of, (SEVEN, 6, -1), errors.InvalidCount, 6),
    (carries.carries_of, (SEVEN, 5, -1), errors.InvalidCount, -1),
    (carries.count_carries, (Field(2), 1, 0), errors.InvalidCount, 1),
    (carries.count_carries, (Field(2), 0, 0), None, None),
    (carries.rest_of, (SEVEN, 3, 3, 0), errors.InvalidCharacter, None),
    (carries.rest_of, (SEVEN, 3, 2, 0), errors.InvalidCount, 0),
    (carries.rest_of, (SEVEN, 3, 2, 4), errors.InvalidCount, 4),
    (carries.rest_of, (SEVEN, 3, 2, -1), errors.InvalidCount, -1),
    (carries.rest_of, (SEVEN, 6, 2, 3), errors.InvalidCount, 3),
    (carries.rest_of, (SEVEN, 1, 0, 0), None, None),
    (carries.rest_of, (SEVEN, 1, 0, 1), errors.InvalidCount, 1),
    (carries.rest_of, (SEVEN, 1, 0, False), errors.InvalidCount, False),
    (carries.carry_row, (SEVEN, 4, 4, 4), errors.InvalidOrder, None),
    (carries.carry_row, (SEVEN, 3, 0, 3), errors.InvalidCharacter, None),
    (carries.carry_row, (SEVEN, 3, True, 0), errors.InvalidCharacter, None),
    (carries.carry_row, (SEVEN, 3, 1, 2), None, None),
    (carries.carry_row, (SEVEN, 1, 0, 0), None, None),
    (carries.least_carries, (SEVEN, 3, 0, 3), errors.InvalidCharacter, None),
    (carries.left_at_generator, (7, Turn(4, (1, 2))), errors.InvalidField, None),
    (carries.left_at_generator, (SEVEN, 4), errors.InvalidTurn, None),
    (carries.prime_power_in, (SEVEN, Turn(60, (49,) * 16)), None, None),
    (Place, (61, 4, None), errors.InvalidOrder, None),
    (Place, (60, 4, None), errors.InvalidPrime, None),
    (Place, (60, 521, None), errors.InvalidPrime, None),
    (Place, (3, 3, (2, 1)), errors.InvalidPlace, None),
    (Place, (6, 3, (1, 0, 1)), errors.InvalidPlace, None),
    (Place, (4, 2, (1, 1)), errors.InvalidPlace, None),
    (Place, (3, 5, (1, 1, 1)), None, None),
    (Place, (1, 2, (1, 1)), None, None),
    (PLACE.turned_by, (3,), errors.InvalidCount, 3),
    (Place(1, 2, (1, 1)).turned_by, (0,), None, None),
    (Place(1, 2, (1, 1)).turned_by, (False,), errors.InvalidCount, False),
    (places.places, (61, 4), errors.InvalidOrder, None),
    (places.places, (60, 4), errors.InvalidPrime, None),
    (places.turning_to, (PLACE, SOME), errors.InvalidPlace, None),
    (places.turning_to, (SOME, PLACE), errors.InvalidPlace, None),
    (Ideal, (11, None), errors.InvalidOrder, None),
    (Ideal, (4, ((LONG - 1, 0), (0, LONG - 1))), None, None),
    (Ideal, (1, ((1,),)), None, None),
    (Ideal, (1, ((0,),)), errors.InvalidIdeal, None),
    (Ideal, (1, ((-1,),)), errors.InvalidIdeal, None),
    (Ideal, (3, IDEAL.rows), errors.InvalidIdeal, None),
    (IDEAL.lifted_by, (21,), errors.InvalidCount, 21),
    (IDEAL.lifted_by, (-1,), errors.InvalidCount, -1),
    (IDEAL.moved, (2,), errors.InvalidCount, 2),
    (ideals.ideal_of, (11, ()), errors.InvalidOrder, None),
    (ideals.ideal_of, (3, ()), errors.InvalidTurn, None),
    (ideals.ideal_of, (3, (ZERO,) * 9), errors.InvalidTurn, None),
    (ideals.jacobi_ideal, (7, 11, 0, 0), errors.InvalidField, None),
    (ideals.jacobi_ideal, (GREAT, 11, 1, 1), errors.InvalidOrder, None),
    (ideals.jacobi_ideal, (GREAT, 11, 0, 0), errors.InvalidOrder, None),
    (ideals.is_only_total, (GREAT, 11, 0, 0, None), errors.InvalidOrder, None),
    (ideals.jacobi_ideal, (SEVEN, 5, 1, 1), errors.InvalidOrder, None),
    (ideals.jacobi_ideal, (SEVEN, 1, 0, 0), errors.InvalidCharacter, None),
    (ideals.jacobi_ideal, (SEVEN, 3, 0, 3), errors.InvalidCharacter, None),
    (ideals.jacobi_ideal, (Field(31), 30, 1, 1), errors.InvalidOrder, None),
    (ideals.is_only_total, (SEVEN, 6, 1, 6, None), errors.InvalidCharacter, None),
    (ideals.is_only_total, (SEVEN, 6, 1, 5, None), errors.InvalidOperation, None),
)

RIGHT = (
    (Wave, (12, 19, (Turn(12, (LONG - 1,) * 4),) * 18)), (Wave, (1, 2, (Turn(1, (0,)),))), (ONE.raised, (0,)),
    (ONE.moved, (1,)), (waves.gauss, (Field(2), 1, 0)), (waves.gauss, (Field(19, 2), 12, 11)),
    (waves.gauss_at, (FIVE, 4, 0, 0)), (waves.gauss_product, (Field(19), 9, (8,) * 12)),
    (waves.jacobi_by_gauss, (FIVE, 4, (3,) * 6)), (waves.product_sides, (FIVE, 4, 0, 4)),
    (waves.product_sides, (FIVE, 4, 3, 1)), (waves.gauss_above, (FIVE, 4, 0, 12)), (waves.gauss_power, (FIVE, 1, 0)),
    (carries.carries_of, (Field(2, 9), 510, 0)), (carries.least_carries, (Field(73), 24, 23, 23)),
    (Place, (60, 7, places.places(60, 7)[0].poly)), (TWELFTH.symbol, (Turn.whole(13, 3),)),
    (TWELFTH.times_of, (Turn.whole(13, 3),)), (GREAT_PLACE.leaves, (Turn.whole(59, 3),)),
    (places.places, (60, 509)), (places.count_places, (59, 2)), (places.turning_to, (GREAT_PLACE, GREAT_PLACE)),
    (ideals.ideal_of, (3, (SOME,) * 8)), (ideals.ideal_of, (30, (Turn(30, (LONG - 1,) * 8),))),
    (IDEAL.lifted_by, (0,)), (ideals.jacobi_ideal, (Field(73), 24, 23, 23)),
    (ideals.ideal_of_place, (Place(1, 509, (508, 1)),)), (IDEAL.lifted_by(20).lifted_by, (20,)),
)


class WaveStages(Refusals, unittest.TestCase):
    CALLS = CALLS
    THEN = THEN
    SEQUENCES = SEQUENCES
    RIGHT = RIGHT

    def test_values_are_judged_behind_the_errors(self):
        for value in all_kinds():
            self.assertIn(value in PLACE, (True, False))
            self.assertIn(value in IDEAL, (True, False))
            self.assertIn(PLACE == value, (True, False))
            self.assertIn(IDEAL == value, (True, False))
            self.assertIn(ONE == value, (True, False))
            self.assertIn(ideals.is_maker(IDEAL, value), (True, False))
            self.assertIn(ideals.is_only_total(SEVEN, 3, 1, 1, value), (True, False))
            assert_raises(self, errors.InvalidIdeal, None, ideals.is_maker, value if value != IDEAL and not isinstance(value, Ideal) else 1, value)
            assert_raises(self, errors.InvalidOperation, None, ideals.is_only_total, SEVEN, 6, 1, 1, value)
            assert_raises(self, errors.InvalidCharacter, None, ideals.is_only_total, SEVEN, 6, 1, 6, value)

    def test_made_objects_are_let_whatever_their_length(self):
        long = Turn(4, (LONG - 1, 3)).raised(9)
        made = ideal_of(4, (long,))
        self.assertEqual(made.size, long.norm())
        self.assertIsNone(raised_by(made.multiplied, made))
        assert_raises(self, errors.InvalidIdeal, None, Ideal, 4, made.rows)
        self.assertIsNone(raised_by(Wave, 4, 5, (long,) * 4))
        self.assertIsNone(raised_by(Place(4, 5, (2, 1)).symbol, long))
        self.assertEqual(math.gcd(ideal_of_place(PLACE).size, 3), 1)


if __name__ == "__main__":
    unittest.main()
