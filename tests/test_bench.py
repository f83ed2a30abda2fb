"""A bench: [17.1] to [17.3], held against a list of states of its own."""

import random
import unittest

import carryturns.errors as errors
from carryturns.count.equations import Equation, count_plainly
from carryturns.field.fields import Field
from carryturns.total.totals import jacobi
from carryturns.turn.turns import Turn
from carryturns.use.bench import Bench, is_pledge
from tests import plain_turns
from tests.support import all_kinds, assert_raises, raised_by

SEVEN = Field(7)
NAMES = ("a", "b", "c", "dd", "ee", "ff", "abcdefgh")
CUBES, CIRCLE = Equation(SEVEN, ((1, 3), (1, 3)), 1), Equation(SEVEN, ((1, 2), (1, 2)), 1)
TURNS = [Turn(3, (-1, -3)), Turn(3, (2, 3)), Turn(3, (3, 1)), Turn(6, (1, 2)), Turn(2, (-1,)), Turn(1, (7,)), Turn(3, (0, 0))]
EQUATIONS = [CUBES, CIRCLE, Equation(SEVEN, ((2, 6),), 2), Equation(SEVEN, ((1, 3), (1, 3)), 6)]


class Model:
    """A bench in the plainest way: a list of states, and the index of the one that is there."""

    def __init__(self):
        self.states = [({}, ())]
        self.at = 0

    @property
    def state(self):
        return self.states[self.at]

    def lines(self):
        turns = {name: thing for name, thing in self.state[0].items() if isinstance(thing, Turn)}
        others = {name: thing for name, thing in self.state[0].items() if isinstance(thing, Equation)}
        rows = ["field 7"] + [f"turn {name}: {turns[name]}" for name in sorted(turns)]
        return tuple(rows + [f"equation {name}: {others[name]}" for name in sorted(others)])

    def step(self, things, pledges):
        before = self.lines()
        self.states[self.at + 1:] = [(things, pledges)]
        return self.move(1, before)

    def move(self, many, before=None):
        before = before or self.lines()
        self.at += many
        after = self.lines()
        return tuple(sorted(set(before) - set(after))), tuple(sorted(set(after) - set(before)))


def holds(things, pledge):
    """Whether a pledge holds, word for word."""
    word, name, *others = pledge
    one = things.get(name)
    two = things.get(others[0]) if word in ("like", "even") else None
    if word in ("count", "even"):
        if not isinstance(one, Equation) or (word == "even" and not isinstance(two, Equation)):
            return False
        return count_plainly(one) == (count_plainly(two) if word == "even" else others[0])
    if not isinstance(one, Turn) or (word == "like" and not isinstance(two, Turn)):
        return False
    if word == "norm":
        return plain_turns.norm(one.order, one.entries) == others[0]
    if word == "left":
        root = SEVEN.power_of(6 // one.order)
        return sum(entry * root ** at for at, entry in enumerate(one.entries)) % 7 == others[0]
    if word == "total":
        return all(0 <= index < one.order for index in others) and jacobi(SEVEN, one.order, tuple(others)) == one
    return one.order == two.order and any(
        plain_turns.turned(one.order, one.entries, unit) == two.entries for unit in plain_turns.units(one.order)
    )


def drawn_pledge(chance, things):
    """Any pledge, often one that holds."""
    word = chance.choice(("norm", "left", "total", "like", "count", "even"))
    name, other = (chance.choice(list(things) or ["a"]) if chance.random() < 0.9 else "zz" for _ in range(2))
    thing = things.get(name)
    if word == "norm":
        return ("norm", name, thing.norm() if isinstance(thing, Turn) and chance.random() < 0.8 else 7)
    if word == "left":
        return ("left", name, chance.randrange(7))
    if word == "total":
        return ("total", name, chance.randrange(4), chance.randrange(3))
    if word == "count":
        return ("count", name, count_plainly(thing) if isinstance(thing, Equation) and chance.random() < 0.8 else 6)
    return (word, name, other)


def drawn_change(chance, model):
    """A method, what it is given, and the things and pledges behind it, or None if something is wrong."""
    things, pledges = model.state
    method = chance.choice(("put", "put", "load", "blend", "blend", "weave", "weave", "spin", "aim", "drop", "rename", "demand", "demand", "waive"))
    name, one, two = chance.choice(NAMES), chance.choice(NAMES), chance.choice(NAMES)
    turns = [key for key, thing in things.items() if isinstance(thing, Turn)]
    if turns and chance.random() < 0.7:
        one, two = chance.choice(turns), chance.choice(turns)
    is_new = name not in things
    if method in ("put", "load"):
        thing = chance.choice(TURNS if method == "put" else EQUATIONS)
        return method, (name, thing), {**things, name: thing} if is_new else None, pledges
    if method in ("blend", "weave"):
        right = is_new and one in turns and two in turns and things[one].order == things[two].order
        made = (things[one].plus if method == "blend" else things[one].times)(things[two]) if right else None
        right = right and max(map(abs, made.entries)) < 10 ** 20
        return method, (name, one, two), {**things, name: made} if right else (None if not made else "too long"), pledges
    if method == "spin":
        right = name in turns
        return method, (name, 5), {**things, name: things[name].turned(5)} if right else None, pledges
    if method == "aim":
        right = name in things and name not in turns
        return method, (name, 0), {**things, name: things[name].with_goal(0)} if right else None, pledges
    if method == "drop":
        return method, (name,), {key: things[key] for key in things if key != name} if not is_new else None, pledges
    if method == "rename":
        names = list(NAMES[:len(things)])
        chance.shuffle(names)
        names = dict(zip(things, names)) if chance.random() < 0.5 else {key: key for key in things}
        return method, (names,), {names[key]: things[key] for key in things}, pledges
    if method == "demand":
        pledge = drawn_pledge(chance, things)
        return method, (pledge,), None if pledge in pledges else things, pledges + (pledge,)
    pledge = chance.choice(pledges) if pledges else ("norm", "a", 1)
    return method, (pledge,), things if pledge in pledges else None, tuple(left for left in pledges if left != pledge)


class ByAModel(unittest.TestCase):
    def check_same(self, bench, model):
        things, pledges = model.state
        lines = model.lines()
        self.assertEqual((bench.lines, tuple(bench), bench.pledges, len(bench)), (lines, lines, pledges, len(pledges)))
        self.assertEqual((bench.names, bench.changes, bench.field), (tuple(sorted(things)), model.at, SEVEN))
        many = sum(isinstance(thing, Turn) for thing in things.values())
        told = f"bench over 7 of {many} turns, {len(things) - many} equations, {len(pledges)} pledges"
        self.assertEqual(str(bench), told)
        for name in NAMES:
            for find, kind in ((bench.turn_named, Turn), (bench.equation_named, Equation)):
                if isinstance(things.get(name), kind):
                    self.assertEqual(find(name), things[name])
                else:
                    assert_raises(self, errors.UnknownName, name, find, name)
        self.assertTrue(all(line in bench for line in lines) and all(pledge in bench for pledge in pledges))

    def change(self, bench, model, chance):
        method, given, things, pledges = drawn_change(chance, model)
        if things == "too long":
            return
        if things is None:
            self.assertIsInstance(raised_by(getattr(bench, method), *given), (errors.InvalidOperation, errors.UnknownName))
            return
        wrong = [pledge for pledge in pledges if not holds(things, pledge)]
        turns = [thing for thing in things.values() if isinstance(thing, Turn)]
        if max(len(turns), len(things) - len(turns)) > 6:
            assert_raises(self, errors.TooMany, 6, getattr(bench, method), *given)
        elif len(pledges) > 10:
            assert_raises(self, errors.TooMany, 10, getattr(bench, method), *given)
        elif wrong:
            assert_raises(self, errors.Refused, wrong[0], getattr(bench, method), *given)
            self.refused += 1
        else:
            self.assertEqual(getattr(bench, method)(*given), model.step(things, pledges))
            self.changed[method] = self.changed.get(method, 0) + 1

    def back_and_forth(self, bench, model, chance):
        many = chance.choice((0, 1, 1, 2, 5))
        if chance.random() < 0.5:
            if many > model.at:
                assert_raises(self, errors.NothingToUndo, many, lambda: bench.undo(many=many))
            else:
                self.assertEqual(bench.undo(many=many), model.move(-many))
        elif many > len(model.states) - model.at - 1:
            assert_raises(self, errors.NothingToUndo, many, lambda: bench.redo(many=many))
        else:
            self.assertEqual(bench.redo(many=many), model.move(many))

    def test_drawn_changes(self):
        self.refused, self.changed = 0, {}
        for seed in range(25):
            chance = random.Random(170 + seed)
            bench, model = Bench(SEVEN), Model()
            for _ in range(80):
                if chance.random() < 0.75:
                    self.change(bench, model, chance)
                else:
                    self.back_and_forth(bench, model, chance)
                self.check_same(bench, model)
        self.assertTrue(self.refused > 50)
        self.assertEqual(len(self.changed), 10)
        self.assertTrue(min(self.changed.values()) > 5, self.changed)

    def test_drawn_trials_and_twins(self):
        self.refused, self.changed = 0, {}
        for seed in range(12):
            chance = random.Random(270 + seed)
            bench, model = Bench(SEVEN), Model()
            for _ in range(30):
                self.change(bench, model, chance)
            self.back_and_forth(bench, model, chance)
            twin, kept = bench.twin(), Model()
            kept.states, kept.at = list(model.states), model.at
            with bench.trial() as same:
                self.assertIs(same, bench)
                tried = Model()
                tried.states, tried.at = list(model.states), model.at
                for _ in range(20):
                    self.change(bench, tried, chance)
                    self.back_and_forth(bench, tried, chance)
                    self.check_same(bench, tried)
            self.check_same(bench, model)
            for _ in range(15):
                self.change(twin, kept, chance)
                self.back_and_forth(twin, kept, chance)
                self.check_same(twin, kept)
                self.check_same(bench, model)
                self.back_and_forth(bench, model, chance)


class Pledges(unittest.TestCase):
    def test_what_is_a_pledge(self):
        right = (
            ("norm", "a", 1), ("left", "abcdefgh", -5), ("total", "a", 10 ** 60 - 1, -3), ("like", "a", "a"),
            ("count", "zz", 0), ("even", "a", "b"),
        )
        wrong = (
            ("norm", "a"), ("norm", "a", 1, 1), ("norm", "A", 1), ("norm", "", 1), ("norm", "abcdefghi", 1), ("norm", "a", True),
            ("norm", "a", 10 ** 60), ("norm", "a", "1"), ("Norm", "a", 1), ("total", "a", 1), ("total", "a", 1, "b"), (),
            ("like", "a", 1), ("even", 1, "a"), ["norm", "a", 1], "norm", ("norm",), (["norm"], "a", 1), ({}, "a", 1),
            (("norm", "a", 1),), (1, "a", 1), (None, "a", 1), ("like", "a", ["a"]), ("left", ("a",), 1), ("count", "a", None),
        )
        self.assertEqual([is_pledge(value) for value in right], [True] * len(right))
        self.assertEqual([is_pledge(value) for value in wrong], [False] * len(wrong))
        for value in all_kinds():
            self.assertEqual(is_pledge(value), value in (("norm", "one", 7), ("like", "one", "two")))

    def test_what_holds(self):
        bench = Bench(SEVEN)
        total = jacobi(SEVEN, 3, (1, 1))
        bench.put("j", total)
        bench.put("turned", total.turned(2))
        bench.put("six", Turn(6, (-1, -3)))
        bench.put("one", Turn(1, (1,)))
        bench.load("cubes", CUBES)
        bench.load("more", EQUATIONS[3])
        right = (
            ("norm", "j", 7), ("left", "j", 0), ("left", "turned", 1), ("total", "j", 1, 1), ("total", "turned", 2, 2),
            ("like", "j", "turned"), ("like", "turned", "j"), ("like", "j", "j"), ("count", "cubes", 6), ("even", "cubes", "more"),
            ("total", "one", 0, 0),
        )
        wrong = (
            ("norm", "j", 8), ("left", "j", 7), ("left", "turned", 8), ("total", "j", 2, 2), ("total", "j", 4, 1), ("total", "j", -2, 1),
            ("like", "j", "six"), ("like", "j", "one"), ("like", "j", "none"), ("like", "none", "j"), ("norm", "none", 7),
            ("norm", "cubes", 6), ("count", "j", 7), ("count", "cubes", 7), ("count", "none", 0), ("even", "cubes", "j"),
            ("even", "cubes", "none"), ("even", "none", "none"), ("like", "cubes", "more"), ("total", "cubes", 1, 1), ("left", "six", 9),
        )
        for pledge in right:
            if pledge[1] != "one":
                self.assertEqual(bench.during(lambda same: (same.demand(pledge), pledge in same)), (((), ()), True))
            self.assertNotIn(pledge, bench)
        for pledge in wrong:
            assert_raises(self, errors.Refused, pledge, bench.demand, pledge)
        self.assertEqual(len(bench), 0)

    def test_the_first_one_in_the_order_of_demands(self):
        bench = Bench(SEVEN)
        bench.put("b", Turn(3, (2, 3)))
        pledges = (("norm", "b", 7), ("like", "b", "b"), ("left", "b", 1))
        for pledge in pledges:
            bench.demand(pledge)
        assert_raises(self, errors.Refused, pledges[0], bench.drop, "b")
        assert_raises(self, errors.Refused, pledges[2], bench.spin, "b", 2)
        bench.waive(pledges[0])
        assert_raises(self, errors.Refused, pledges[1], bench.drop, "b")
        bench.demand(pledges[0])
        assert_raises(self, errors.Refused, pledges[1], bench.rename, {"b": "a"})
        self.assertEqual(bench.pledges, pledges[1:] + pledges[:1])

    def test_pledges_stay_as_they_are(self):
        bench = Bench(SEVEN)
        bench.put("a", Turn(3, (2, 3)))
        bench.put("b", Turn(3, (-1, -3)))
        bench.demand(("norm", "a", 7))
        news = bench.rename({"a": "b", "b": "a"})
        self.assertEqual(news, (("turn a: 2+3z order 3", "turn b: -1-3z order 3"), ("turn a: -1-3z order 3", "turn b: 2+3z order 3")))
        self.assertEqual(bench.pledges, (("norm", "a", 7),))
        assert_raises(self, errors.Refused, ("norm", "a", 7), bench.rename, {"a": "c", "b": "d"})

    def test_true_is_not_1(self):
        bench = Bench(SEVEN)
        bench.put("a", Turn(1, (1,)))
        bench.demand(("norm", "a", 1))
        self.assertEqual([("norm", "a", one) in bench for one in (1, True)], [True, False])
        assert_raises(self, errors.InvalidOperation, None, bench.waive, ("norm", "a", True))
        assert_raises(self, errors.InvalidOperation, None, bench.demand, ("norm", "a", True))

    def test_pledges_come_back_unasked(self):
        bench = Bench(SEVEN)
        bench.put("a", Turn(1, (1,)))
        bench.demand(("norm", "a", 1))
        bench.waive(("norm", "a", 1))
        bench.drop("a")
        self.assertEqual((bench.undo(many=2), bench.pledges), (((), ("turn a: 1 order 1",)), (("norm", "a", 1),)))
        self.assertEqual((bench.redo(many=2), bench.pledges), ((("turn a: 1 order 1",), ()), ()))


class Changes(unittest.TestCase):
    def test_changes_that_change_nothing(self):
        bench = Bench(SEVEN)
        bench.put("one", Turn(2, (3,)))
        bench.load("two", CUBES)
        for call in (lambda: bench.spin("one", 1), lambda: bench.aim("two", 1), lambda: bench.rename({"one": "one", "two": "two"})):
            many = bench.changes
            self.assertEqual(call(), ((), ()))
            self.assertEqual(bench.changes, many + 1)
        self.assertEqual(bench.undo(many=3), ((), ()))
        self.assertEqual(bench.redo(many=0), ((), ()))
        self.assertEqual(bench.redo(many=3), ((), ()))

    def test_another_change_ends_doing_again(self):
        bench = Bench(SEVEN)
        bench.put("one", Turn(2, (3,)))
        bench.put("two", Turn(2, (3,)))
        bench.undo(many=2)
        self.assertEqual((bench.changes, bench.lines), (0, ("field 7",)))
        self.assertIsNotNone(raised_by(bench.put, "One", 1))
        self.assertEqual(bench.redo(), ((), ("turn one: 3 order 2",)))
        bench.drop("one")
        assert_raises(self, errors.NothingToUndo, 1, lambda: bench.redo(many=1))
        self.assertEqual(bench.undo(), ((), ("turn one: 3 order 2",)))

    def test_names_of_eight_signs(self):
        bench = Bench(SEVEN)
        bench.put("abcdefgh", Turn(2, (3,)))
        assert_raises(self, errors.InvalidOperation, None, bench.put, "abcdefghi", Turn(2, (3,)))
        assert_raises(self, errors.InvalidOperation, None, bench.rename, {"abcdefgh": "abcdefghi"})
        self.assertEqual(bench.names, ("abcdefgh",))

    def test_news_of_many_changes(self):
        bench = Bench(SEVEN)
        bench.put("b", Turn(2, (3,)))
        bench.load("a", CUBES)
        bench.put("c", Turn(2, (4,)))
        bench.drop("c")
        self.assertEqual(bench.undo(many=4), (("equation a: 1*x^3 + 1*y^3 = 1 over 7", "turn b: 3 order 2"), ()))
        self.assertEqual(bench.redo(many=3), ((), ("equation a: 1*x^3 + 1*y^3 = 1 over 7", "turn b: 3 order 2", "turn c: 4 order 2")))

    def test_trials_and_errors(self):
        bench = Bench(SEVEN)
        bench.put("one", Turn(2, (3,)))
        bench.put("two", Turn(2, (3,)))
        bench.undo()
        for wrong in (ValueError, errors.Refused, KeyError):
            with self.assertRaises(wrong):
                with bench.trial() as same:
                    same.put("three", Turn(2, (5,)))
                    same.demand(("norm", "three", 5))
                    raise wrong("now")
            self.assertEqual((bench.names, bench.changes, bench.pledges), (("one",), 1, ()))
        with bench.trial() as outer:
            outer.undo()
            with outer.trial() as inner:
                inner.put("x", Turn(2, (5,)))
            self.assertEqual((bench.names, bench.changes), ((), 0))
        self.assertEqual(bench.redo(), ((), ("turn two: 3 order 2",)))

    def test_during(self):
        bench = Bench(SEVEN)
        self.assertEqual(bench.during(lambda same: same.put("one", Turn(2, (3,)))), ((), ("turn one: 3 order 2",)))
        self.assertEqual((bench.names, bench.changes), ((), 0))
        self.assertIs(bench.during(lambda same: same), bench)
        self.assertIsNone(bench.during(lambda same: None))
        assert_raises(self, errors.UnknownName, "x", bench.during, lambda same: same.drop("x"))
        self.assertEqual(bench.during(Bench.twin), bench)

    def test_equal_benches(self):
        one, other = Bench(SEVEN), Bench(SEVEN)
        self.assertTrue(one == other and not one != other and Bench(Field(13)) != one)
        one.put("a", Turn(2, (3,)))
        self.assertNotEqual(one, other)
        other.put("b", Turn(2, (3,)))
        self.assertNotEqual(one, other)
        other.rename({"b": "a"})
        self.assertEqual(one, other)
        for pledge in (("norm", "a", 3), ("left", "a", 3)):
            one.demand(pledge)
        for pledge in (("left", "a", 3), ("norm", "a", 3)):
            other.demand(pledge)
        self.assertNotEqual(one, other)
        one.waive(("norm", "a", 3))
        one.demand(("norm", "a", 3))
        self.assertEqual(one, other)
        self.assertFalse(any(one == value for value in all_kinds()))

    def test_lines_are_judged(self):
        bench = Bench(SEVEN)
        bench.put("a", Turn(2, (3,)))
        for value in all_kinds() + ["field 8", "turn a: 3 order 2 ", "a", "field"]:
            self.assertFalse(value in bench)
        self.assertTrue("field 7" in bench and "turn a: 3 order 2" in bench)

    def test_norms_and_what_is_left(self):
        bench = Bench(SEVEN)
        bench.put("a", Turn(3, (5, 2)))
        bench.put("b", Turn(3, (1, -3)))
        norms = [bench.turn_named(name).norm() for name in ("a", "b")]
        bench.demand(("norm", "a", norms[0]))
        bench.spin("a", 2)
        bench.weave("c", "a", "b")
        bench.demand(("norm", "c", norms[0] * norms[1]))
        bench.blend("d", "a", "b")
        self.assertNotEqual(bench.turn_named("d").norm(), sum(norms))
        bench.load("e", CUBES)
        bench.demand(("count", "e", 6))
        assert_raises(self, errors.Refused, ("count", "e", 6), bench.aim, "e", 0)

    def test_long_turn_numbers(self):
        bench = Bench(SEVEN)
        bench.put("a", Turn(1, (10 ** 60 - 1,)))
        for _ in range(8):
            bench.weave("b", "a", "a")
            bench.drop("a")
            bench.rename({"b": "a"})
        self.assertEqual(bench.turn_named("a"), Turn(1, (10 ** 60 - 1,)).raised(16).raised(16))
        bench.demand(("left", "a", pow(10 ** 60 - 1, 256, 7)))
        self.assertEqual(bench.undo(many=25)[1], (f"turn a: {10 ** 60 - 1} order 1",))


if __name__ == "__main__":
    unittest.main()
