"""A bench: turn numbers and equations under names, with pledges, and changes that can be taken back."""

from carryturns.base.numbers import check_count, is_integer, is_name
from carryturns.count.equations import check_equation
from carryturns.errors import InvalidOperation, InvalidOrder, NothingToUndo, Refused, TooMany, UnknownName
from carryturns.field.fields import check_field
from carryturns.turn.turns import check_turn
from carryturns.use.pledges import holds

MAX_TURNS = 6
MAX_EQUATIONS = 6
MAX_PLEDGES = 10

# For each word whether what stands behind it are names; integers otherwise.
PLEDGES = {
    "norm": (True, False),
    "left": (True, False),
    "total": (True, False, False),
    "like": (True, True),
    "count": (True, False),
    "even": (True, True),
}


def is_pledge(value):
    """Whether the value is a pledge, whatever the bench."""
    if not isinstance(value, tuple) or len(value) == 0 or not isinstance(value[0], str):
        return False
    word = value[0]
    if word not in PLEDGES or len(value) != len(PLEDGES[word]) + 1:
        return False
    return all([is_name(part) if named else is_integer(part) for part, named in zip(value[1:], PLEDGES[word])])


class Load:
    """What a bench has at one time. It never changes."""

    def __init__(self, field, turns, equations, pledges):
        first = [f"field {field.size}"]
        middle = [f"turn {name}: {turns[name]}" for name in sorted(list(turns))]
        last = [f"equation {name}: {equations[name]}" for name in sorted(list(equations))]
        self._turns = turns
        self._equations = equations
        self._pledges = pledges
        self._names = tuple(sorted(list(turns) + list(equations)))
        self._lines = tuple(first + middle + last)


def news_between(before, after):
    """The pair of the ascending tuples of the lines that are gone and of those that are new."""
    gone = [line for line in before if line not in after]
    new = [line for line in after if line not in before]
    return tuple(sorted(gone)), tuple(sorted(new))


def load_text(load):
    """The text of how much there is on a bench."""
    return f"{len(load._turns)} turns, {len(load._equations)} equations, {len(load._pledges)} pledges"


def with_named(named, name, value):
    """The dict with a value under a name, a new one or another one than before."""
    return {**named, name: value}


def without(named, name):
    """The dict without a name."""
    return {key: named[key] for key in named if key != name}


def renamed(named, names):
    """The dict with other names."""
    return {names[key]: named[key] for key in named}


class Trial:
    """A block behind which a bench is as it was."""

    def __init__(self, bench):
        self._bench = bench
        self._past = ()
        self._load = None
        self._future = ()

    def __enter__(self):
        """Keep what the bench has, and give the bench."""
        bench = self._bench
        self._past = bench._past
        self._load = bench._load
        self._future = bench._future
        return bench

    def __exit__(self, kind, value, trace):
        bench = self._bench
        bench._past = self._past
        bench._load = self._load
        bench._future = self._future


class Bench:
    """Turn numbers and equations under names; the only object that changes."""

    def __init__(self, field):
        check_field(field)
        self._field = field
        # What the bench had ahead of the changes that can be taken back, and has behind those that
        # can be done again, the next one last.
        self._past = ()
        self._load = Load(field, {}, {}, ())
        self._future = ()

    @property
    def field(self):
        """The field."""
        return self._field

    @property
    def names(self):
        """The ascending tuple of all names."""
        return self._load._names

    @property
    def lines(self):
        """The tuple of the lines."""
        return self._load._lines

    @property
    def pledges(self):
        """The tuple of the pledges, in the order of demands."""
        return self._load._pledges

    @property
    def changes(self):
        """The number of the changes that can be taken back."""
        return len(self._past)

    def put(self, name, turn):
        """A further turn number."""
        self._check_new(name)
        check_turn(turn)
        if turn.order not in self._field.orders:
            raise InvalidOrder("a turn number of no order of the field")
        return self._with_turn(name, turn)

    def load(self, name, equation):
        """A further equation."""
        self._check_new(name)
        check_equation(equation)
        if equation.field != self._field:
            raise InvalidOperation("an equation over another field")
        equations = self._load._equations
        if len(equations) == MAX_EQUATIONS:
            raise TooMany(MAX_EQUATIONS)
        return self._changed(self._load._turns, with_named(equations, name, equation), self._load._pledges)

    def blend(self, name, one, other):
        """The sum of two turn numbers as a further one."""
        self._check_new(name)
        first, second = self.turn_named(one), self.turn_named(other)
        return self._with_turn(name, first.plus(second))

    def weave(self, name, one, other):
        """The product of two turn numbers as a further one."""
        self._check_new(name)
        first, second = self.turn_named(one), self.turn_named(other)
        return self._with_turn(name, first.times(second))

    def spin(self, name, unit):
        """A turn number, turned, in its own place."""
        turned = self.turn_named(name).turned(unit)
        turns = with_named(self._load._turns, name, turned)
        return self._changed(turns, self._load._equations, self._load._pledges)

    def aim(self, name, element):
        """An equation with another goal, in its own place."""
        aimed = self.equation_named(name).with_goal(element)
        equations = with_named(self._load._equations, name, aimed)
        return self._changed(self._load._turns, equations, self._load._pledges)

    def drop(self, name):
        """The bench without a turn number or an equation."""
        if not self._has(name):
            raise UnknownName(name)
        turns, equations = without(self._load._turns, name), without(self._load._equations, name)
        return self._changed(turns, equations, self._load._pledges)

    def rename(self, names):
        """Other names for everything, by a dict."""
        self._check_names(names)
        turns, equations = renamed(self._load._turns, names), renamed(self._load._equations, names)
        return self._changed(turns, equations, self._load._pledges)

    def demand(self, pledge):
        """A further pledge."""
        if not is_pledge(pledge) or pledge in self._load._pledges:
            raise InvalidOperation("no pledge, or one that is there")
        if len(self._load._pledges) == MAX_PLEDGES:
            raise TooMany(MAX_PLEDGES)
        return self._changed(self._load._turns, self._load._equations, self._load._pledges + (pledge,))

    def waive(self, pledge):
        """The bench without a pledge."""
        if not is_pledge(pledge) or pledge not in self._load._pledges:
            raise InvalidOperation("a pledge that is not there")
        left = tuple([other for other in self._load._pledges if other != pledge])
        return self._changed(self._load._turns, self._load._equations, left)

    def undo(self, *, many=1):
        """Take back so many changes."""
        check_count(many, 0)
        if many > len(self._past):
            raise NothingToUndo(many)
        past, load, future = self._past, self._load, self._future
        for _ in range(many):
            future = future + (load,)
            load = past[-1]
            past = past[:-1]
        return self._moved_to(past, load, future)

    def redo(self, *, many=1):
        """Do again so many changes."""
        check_count(many, 0)
        if many > len(self._future):
            raise NothingToUndo(many)
        past, load, future = self._past, self._load, self._future
        for _ in range(many):
            past = past + (load,)
            load = future[-1]
            future = future[:-1]
        return self._moved_to(past, load, future)

    def trial(self):
        """What a block is entered with, behind which the bench is as it was."""
        return Trial(self)

    def during(self, call):
        """What a call with the bench returns, in a block behind which the bench is as it was."""
        with self.trial() as same:
            return call(same)

    def twin(self):
        """An independent copy, with the changes to take back and to do again."""
        other = Bench(self._field)
        other._past = self._past
        other._load = self._load
        other._future = self._future
        return other

    def turn_named(self, name):
        """The turn number with a name."""
        if not is_name(name) or name not in self._load._turns:
            raise UnknownName(name)
        return self._load._turns[name]

    def equation_named(self, name):
        """The equation with a name."""
        if not is_name(name) or name not in self._load._equations:
            raise UnknownName(name)
        return self._load._equations[name]

    def _has(self, name):
        return is_name(name) and name in self._load._names

    def _check_new(self, name):
        if not is_name(name) or self._has(name):
            raise InvalidOperation("no name, or one that something has")

    def _check_names(self, names):
        own = self._load._names
        if not isinstance(names, dict) or len(names) != len(own) or not all([name in names for name in own]):
            raise InvalidOperation("no dict from all names")
        told = [names[name] for name in own]
        if not all([is_name(name) for name in told]) or any([told.count(name) > 1 for name in told]):
            raise InvalidOperation("no names that are unlike one another")

    def _with_turn(self, name, turn):
        if len(self._load._turns) == MAX_TURNS:
            raise TooMany(MAX_TURNS)
        return self._changed(with_named(self._load._turns, name, turn), self._load._equations, self._load._pledges)

    def _changed(self, turns, equations, pledges):
        for pledge in pledges:
            if not holds(self._field, turns, equations, pledge):
                raise Refused(pledge)
        return self._moved_to(self._past + (self._load,), Load(self._field, turns, equations, pledges), ())

    def _moved_to(self, past, load, future):
        before = self._load._lines
        self._past = past
        self._load = load
        self._future = future
        return news_between(before, load._lines)

    def __contains__(self, value):
        if isinstance(value, str):
            return value in self._load._lines
        return is_pledge(value) and value in self._load._pledges

    def __len__(self):
        return len(self._load._pledges)

    def __iter__(self):
        return iter(self._load._lines)

    def __eq__(self, other):
        if not isinstance(other, Bench) or self._field != other.field:
            return False
        if self._load._turns != other._load._turns or self._load._equations != other._load._equations:
            return False
        return self._load._pledges == other._load._pledges

    def __str__(self):
        return f"bench over {self._field.size} of {load_text(self._load)}"
