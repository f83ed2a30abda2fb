"""What the tests of wrong arguments share: what parameters take, and the tests themselves."""

import itertools

import carryturns.errors as errors
from carryturns.field.fields import Field
from tests.support import all_kinds, assert_raises, plain_integer, raised_by, short_integer

LONG = 10 ** 60


def is_wrong_for_all(value):
    """Whether no parameter takes the value, but one that takes any value."""
    return isinstance(value, (str, bool, list, dict, type(None)))


class Kind:
    """What a parameter takes: its error, which values are right, and whether this hangs on other arguments."""

    def __init__(self, error, is_right, wrong, hangs=False):
        self.error = error
        self.is_right = is_right
        self.wrong = [value for value in all_kinds() + wrong if not is_right(value)]
        # These are wrong whatever the other arguments are.
        self.always_wrong = [value for value in self.wrong if not hangs or is_wrong_for_all(value)]


def within(low, high, hangs=False):
    """Integers within bounds."""
    def is_right(value):
        return short_integer(value) and low <= value <= high
    edges = [low - 1] + ([high + 1] if high < LONG else [])
    return Kind(errors.InvalidCount, is_right, edges, hangs)


def prime_to(high, wrong):
    """Prime numbers up to a bound."""
    def is_right(value):
        return plain_integer(value) and 2 <= value <= high and all(value % low for low in range(2, value))
    return Kind(errors.InvalidPrime, is_right, wrong)


def elements(size, zero=True):
    """Elements of a field."""
    def is_right(value):
        return plain_integer(value) and (0 if zero else 1) <= value < size
    return Kind(errors.InvalidElement, is_right, [size, -1, 0])


def orders_of(size):
    """Orders of a field."""
    def is_right(value):
        return plain_integer(value) and 1 <= value <= 24 and (size - 1) % value == 0
    return Kind(errors.InvalidOrder, is_right, [0, 5, 24, 25, -1, size - 1], hangs=True)


def objects_of(kind, error, wrong):
    """Objects of a class."""
    return Kind(error, lambda value: isinstance(value, kind), wrong)


ANY = within(-LONG + 1, LONG - 1)
NATURAL = within(0, LONG - 1)
POSITIVE = within(1, LONG - 1)
A_FIELD = objects_of(Field, errors.InvalidField, [13, "field of 13", (13, 1), Field])


class Refusals:
    """The tests of wrong arguments; each of these tables is given by the class of a test."""

    # Each call with what its parameters take (None for any value), and with right arguments.
    CALLS = ()
    # Errors behind all others, each with what it keeps.
    THEN = ()
    # Two reasons for an error, or what is right in one place hangs on another one; None for no error.
    SEQUENCES = ()
    # The greatest and the least of what is right.
    RIGHT = ()

    def check(self, call, given, kind, kept):
        if kind is None:
            self.assertIsNone(raised_by(call, *given))
        else:
            assert_raises(self, kind, kept, call, *given)

    def test_one_wrong_argument(self):
        for call, parameters in self.CALLS:
            right = [value for _, value in parameters]
            self.assertIsNone(raised_by(call, *right), (call, right))
            for at, (kind, _) in enumerate(parameters):
                for value in kind.wrong if kind else []:
                    given = right[:at] + [value] + right[at + 1:]
                    self.check(call, given, kind.error, value)

    def test_two_wrong_arguments(self):
        for call, parameters in self.CALLS:
            right = [value for _, value in parameters]
            told = [at for at, (kind, _) in enumerate(parameters) if kind]
            for at, to in itertools.combinations(told, 2):
                one, other = parameters[at][0], parameters[to][0]
                for first in one.wrong[::4]:
                    for second in other.wrong[::4]:
                        given = list(right)
                        given[at], given[to] = first, second
                        self.check(call, given, one.error, first)

    def test_errors_behind_the_others(self):
        for call, given, kind, kept in self.THEN:
            self.check(call, given, kind, kept)

    def test_a_wrong_argument_is_ahead_of_the_errors_behind(self):
        told = dict(self.CALLS)
        for call, given, _, _ in self.THEN:
            for at, (kind, _) in enumerate(told.get(call, ())):
                for value in kind.always_wrong if kind else []:
                    wrong = list(given[:at]) + [value] + list(given[at + 1:])
                    self.check(call, wrong, kind.error, value)

    def test_sequences(self):
        for call, given, kind, kept in self.SEQUENCES:
            self.check(call, given, kind, kept)

    def test_what_is_just_right(self):
        for call, given in self.RIGHT:
            self.assertIsNone(raised_by(call, *given), (call, given))

    def test_equal_calls_have_equal_results(self):
        for call, parameters in self.CALLS:
            right = [value for _, value in parameters]
            self.assertEqual(call(*right), call(*right))
