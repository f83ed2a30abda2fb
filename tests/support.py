"""What several tests share: values of all kinds, raised errors, and the examples of the document."""

import re

import carryturns.errors as errors
from carryturns.above.towers import Tower
from carryturns.character.characters import Character
from carryturns.count.equations import Equation
from carryturns.field.fields import Field
from carryturns.ideal.ideals import Ideal
from carryturns.period.periods import PeriodRing
from carryturns.place.places import Place
from carryturns.turn.turns import Turn
from carryturns.use.bench import Bench
from carryturns.wave.waves import gauss


def nested(kind, deep):
    """A tuple or a list that is nested so deep."""
    value = kind()
    for _ in range(deep - 1):
        value = kind([value])
    return value


def all_kinds():
    """Values of every kind that the document lets a caller build."""
    return [
        -2, -1, 0, 1, 2, 3, 4, 7, 10 ** 60 - 1, 1 - 10 ** 60, 10 ** 60, -(10 ** 60), 10 ** 100 - 1, 1 - 10 ** 100,
        True, False, None, "", "a", "7", "0", "ab\n", "~" * 4000,
        (), (0,), (1,), (True,), (False,), (None,), ("a",), ((),), (1, 2), (0, 1), (1, 0), (-1,), ([1],),
        (10 ** 60,), (1,) * 61, (1,) * 62, (1,) * 1000,
        [], [0], [1], [1, 2], {}, {1: 2}, {"a": (1, [2])}, {0: None},
        nested(tuple, 8), nested(list, 8), {1: {2: {3: {4: {5: {6: {7: {}}}}}}}},
        Field(7), Field(3, 2), errors.TurnError("text"), errors.ParseError(0), errors.InvalidCount(1),
        errors.UnknownName("a"), errors.NothingToUndo(1), errors.TooMany(60), errors.Refused(("a", 1)),
        Turn(1, (0,)), Turn(1, (1,)), Turn(2, (1,)), Turn(3, (-1, -3)), Turn(5, (1, 2, 0, -1)),
        Turn(3, (10 ** 50, 1)).raised(3), (Turn(3, (1, 0)),), Character(Field(7), 3, 1), Character(Field(3, 2), 4, 0),
        PeriodRing(Field(7), 3), PeriodRing(Field(13), 4), Equation(Field(7), ((1, 3), (1, 3)), 1),
        Equation(Field(3, 2), ((1, 4),), 0), Tower(Field(7), 2), Tower(Field(2), 3), ((0,),), ((1, 3), (1, 3)),
        gauss(Field(5), 4, 1), gauss(Field(7), 3, 2), Place(3, 7, (3, 1)), Place(4, 3, (1, 0, 1)),
        Ideal(3, ((1, 3), (0, 7))), Ideal(4, ((1, 2), (0, 5))), ((1, 3), (0, 7)), (3, 1),
        Bench(Field(7)), Bench(Field(13)), ("norm", "one", 7), ("like", "one", "two"), {"one": "two"},
    ]


def plain_integer(value):
    """Whether the value is an integer for the document, whatever its length."""
    return type(value) is int


def short_integer(value):
    """Whether the value is an integer of at most sixty digits, told by its digits."""
    return plain_integer(value) and len(str(abs(value))) <= 60


def no_integers():
    """All values of all_kinds() that are no integers of at most sixty digits."""
    return [value for value in all_kinds() if not short_integer(value)]


def raised_by(call, *given):
    """The error that a call raises, or None."""
    try:
        call(*given)
    except Exception as error:
        return error
    return None


KEPT = {
    errors.InvalidCount: "value",
    errors.UnknownName: "name",
    errors.NothingToUndo: "wanted",
    errors.TooMany: "limit",
    errors.Refused: "reason",
    errors.ParseError: "spot",
}


def assert_raises(case, kind, kept, call, *given):
    """Assert that just this error is raised, and that it keeps just this, if it keeps anything."""
    error = raised_by(call, *given)
    told = f"{getattr(call, '__name__', call)}{str(given)[:300]} raised {error!r}"
    case.assertIs(type(error), kind, told)
    if kind in KEPT:
        value = getattr(error, KEPT[kind])
        case.assertIs(type(value), type(kept), told)
        case.assertEqual(value, kept, told)


def examples_in(text):
    """The list of the pairs of a row behind >>> and of the row below it, or None if there is none."""
    rows = text.strip().split("\n")
    found = []
    for at, row in enumerate(rows):
        if row.startswith(">>> "):
            below = rows[at + 1] if at + 1 < len(rows) else ">>> "
            found.append((row[4:], None if below.startswith(">>> ") else below))
    return found


def check_raised(case, error, told):
    """Check that an error is of the told name, and that it keeps what is told in parentheses."""
    name, kept = re.fullmatch(r"(\w+)(?:\((.*)\))?", told).groups()
    case.assertIs(type(error), getattr(errors, name))
    if kept is not None:
        case.assertEqual(getattr(error, KEPT[type(error)]), eval(kept))


def check_examples(case, text, names):
    """Run the examples of a section, word for word."""
    names = dict(names)
    for row, told in examples_in(text):
        with case.subTest(row=row):
            if told is None:
                exec(row, names)
            elif told.startswith("raises "):
                check_raised(case, raised_by(eval, row, names), told[7:])
            else:
                value = eval(row, names)
                case.assertEqual(value, eval(told, names))
                case.assertEqual(repr(value), told)
