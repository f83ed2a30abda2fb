"""The errors of the package."""


class TurnError(ValueError):
    """Something that was passed is not what it should be."""


class InvalidPrime(TurnError):
    """No prime number within the bounds."""


class InvalidField(TurnError):
    """No field."""


class InvalidElement(TurnError):
    """No element of the field."""


class InvalidOrder(TurnError):
    """No order."""


class InvalidTurn(TurnError):
    """No turn number."""


class InvalidCharacter(TurnError):
    """No character, or no index of one."""


class InvalidPolynomial(TurnError):
    """No polynomial."""


class InvalidTable(TurnError):
    """No table."""


class InvalidPeriod(TurnError):
    """No period."""


class InvalidEquation(TurnError):
    """No equation."""


class InvalidWave(TurnError):
    """No wave."""


class InvalidPlace(TurnError):
    """No place."""


class InvalidIdeal(TurnError):
    """No ideal."""


class InvalidPaper(TurnError):
    """No split, or no share."""


class InvalidOperation(TurnError):
    """Things that do not go together, or an operation that has no result."""


class ParseError(TurnError):
    """A text that cannot be read."""

    def __init__(self, spot):
        self.spot = spot


class InvalidCount(IndexError):
    """No integer within the bounds."""

    def __init__(self, value):
        self.value = value


class UnknownName(KeyError):
    """A name that nothing has."""

    def __init__(self, name):
        self.name = name


class NothingToUndo(RuntimeError):
    """Fewer changes than are to be taken back, or done again."""

    def __init__(self, wanted):
        self.wanted = wanted


class TooMany(OverflowError):
    """More than a limit lets."""

    def __init__(self, limit):
        self.limit = limit


class Refused(ArithmeticError):
    """A change after which something pledged would not hold."""

    def __init__(self, reason):
        self.reason = reason
