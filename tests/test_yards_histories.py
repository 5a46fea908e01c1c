"""Histories of changes of yards, compared with ones kept by hand: undo, deeds done at once, and trials."""

import random
import unittest

from evertreads.errors import NoAnswer, NothingToUndo, WrongName, WrongValue
from evertreads.walkers import Walker
from evertreads.yards import Yard
from tests.plain_facts import told_of
from tests.plain_yard import RINGS, Model, Refused

WALKERS = RINGS + RINGS + (("1", (0, 3), "N"), ("1", (0, -5), "N"), ("1", (3, 0), "N"),
           ("4 L 2 L 2 L 2 L", (0, 0), "E"), ("1 R", (0, 0), "N"), ("3 R 3 L", (-1, 0), "W"), ("1", (9, 3), "W"))
NAMES = ("a", "b", "c", "abcdefgh")
ERRORS = (WrongValue, WrongName, NoAnswer)


def drawn_deed(draw):
    word = draw.choice(("set", "set", "drop", "claim", "claim", "claim", "lift"))
    name = draw.choice(NAMES)
    if word == "set":
        return word, name, draw.choice(WALKERS)
    if word == "drop":
        return word, name
    if word == "lift":
        return word, draw.randint(-1, 4)
    kind = draw.choice(("apart", "never", "within", "free", "treads", "shut"))
    square = draw.choice(((1, 1), (0, 0), (0, 2), (5, 5)))
    return word, (kind, name, draw.choice(NAMES) if kind in ("apart", "never", "within") else square)


def told(yard):
    return yard.names, yard.claims, yard.changes, tuple(told_of(yard[name]) for name in yard.names)


def passed(deed):
    """The deed as a yard is told it."""
    return (*deed[:2], Walker(*deed[2])) if deed[0] == "set" else deed


def do_one(yard, deed):
    """The deed done by the method for it."""
    word, *rest = passed(deed)
    if word == "set":
        yard[rest[0]] = rest[1]
        return None
    return {"drop": yard.drop, "claim": yard.claim, "lift": yard.lift}[word](rest[0])


def outcome(call, kinds, *args):
    """What the call returns, or the error that it raises, told as the hand-kept yard tells it."""
    try:
        return call(*args)
    except Refused as error:
        return error.args
    except kinds as error:
        return type(error).__name__, next(iter(vars(error).values()), None)


class HistoriesTest(unittest.TestCase):
    def same(self, yard, model):
        self.assertEqual(told(yard), model.told())
        self.assertEqual([len(yard), bool(yard)], [len(yard.names), yard.names != ()])

    def both(self, yard, model, deed):
        self.assertEqual(outcome(do_one, ERRORS, yard, deed), outcome(model.do, (), deed), deed)
        self.same(yard, model)

    def undone(self, yard, model):
        self.assertEqual(outcome(yard.undo, ERRORS), outcome(model.undo, ()))
        self.same(yard, model)

    def all_done(self, yard, model, deeds):
        seen = []
        mine = outcome(lambda: yard.do_all(*map(passed, deeds), watch=lambda same: seen.append(told(same))), ERRORS)
        self.assertEqual(mine, outcome(model.do_all, (), deeds))
        self.assertEqual(seen, model.seen)
        self.same(yard, model)

    def some_steps(self, draw, yard, model, many, depth=0):
        for _ in range(many):
            step = draw.random()
            if step < 0.6:
                self.both(yard, model, drawn_deed(draw))
            elif step < 0.75:
                self.undone(yard, model)
            elif step < 0.9 or depth > 2:
                self.all_done(yard, model, [drawn_deed(draw) for _ in range(draw.randint(0, 4))])
            else:
                self.tried_out(draw, yard, model, depth)

    def tried_out(self, draw, yard, model, depth):
        before, past = told(yard), list(model.past)
        trial = yard.trial() if depth == 0 or draw.random() < 0.5 else self.trial
        self.trial, ends = trial, draw.choice(("plainly", "by an error", "by a return"))

        def rows():
            with trial as same:
                self.assertIs(same, yard)
                self.assertEqual(told(yard), before)
                self.some_steps(draw, yard, model, draw.randint(0, 6), depth + 1)
                if ends == "by an error":
                    raise KeyboardInterrupt(7)
                if ends == "by a return":
                    return 5
            return 6

        if ends == "by an error":
            with self.assertRaises(KeyboardInterrupt) as caught:
                rows()
            self.assertEqual(caught.exception.args, (7,))
        else:
            self.assertEqual(rows(), 5 if ends == "by a return" else 6)
        model.past = past
        self.same(yard, model)

    def test_by_hand(self):
        for seed in range(120):
            draw = random.Random(seed)
            yard, model = Yard(), Model()
            self.some_steps(draw, yard, model, 120)
            while model.told()[2]:
                self.undone(yard, model)
            self.undone(yard, model)

    def test_drawn_deeds_do_and_do_not(self):
        draw, yard, model, kinds = random.Random(1), Yard(), Model(), {}
        for _ in range(1500):
            kind = (outcome(model.do, (), drawn_deed(draw)) or ("done",))[0]
            kinds[kind] = kinds.get(kind, 0) + 1
        self.assertEqual(set(kinds), {"done", "Broken", "UnknownName", "InUse", "InvalidIndex"})
        self.assertGreater(min(kinds.values()), 10)


class AllTest(unittest.TestCase):
    def setUp(self):
        self.yard, self.ring, self.line = Yard(), Walker("2 R"), Walker("1", (5, 0))
        self.deeds = (("set", "a", self.ring), ("set", "b", self.line), ("claim", ("apart", "a", "b")),
                      ("claim", ("shut", "a", (1, 1))), ("lift", 0), ("drop", "b"))

    def test_none(self):
        self.assertEqual(self.yard.do_all(), 0)
        self.assertEqual(self.yard.do_all(watch=None), 0)
        self.assertEqual(self.yard.do_all(watch=lambda yard: 1 // 0), 0)
        self.assertEqual(self.yard.changes, 0)

    def test_number_and_changes(self):
        for many in range(1, 7):
            yard = Yard()
            self.assertEqual(yard.do_all(*self.deeds[:many]), many)
            self.assertEqual(yard.changes, many)
            yard.undo()
            self.assertEqual(yard.changes, many - 1)
        self.assertEqual(self.yard.do_all(*self.deeds, watch=None), 6)
        self.assertEqual([self.yard.names, self.yard.claims], [("a",), (("shut", "a", (1, 1)),)])
        self.assertIs(self.yard["a"], self.ring)
        self.yard.undo()
        self.assertIs(self.yard["b"], self.line)

    def test_watch(self):
        seen = []
        self.yard.do_all(*self.deeds, watch=lambda yard: seen.append((yard, yard.names, yard.claims, yard.changes)))
        self.assertTrue(all(yard is self.yard for yard, *_ in seen))
        one, other = ("apart", "a", "b"), ("shut", "a", (1, 1))
        self.assertEqual([rest for _, *rest in seen],
                         [[("a",), (), 1], [("a", "b"), (), 2], [("a", "b"), (one,), 3], [("a", "b"), (one, other), 4],
                          [("a", "b"), (other,), 5], [("a",), (other,), 6]])

    def test_watch_that_tries_out(self):
        seen = []

        def watch(yard):
            yard.tried(lambda same: same.do_all(("set", "z", self.ring), ("drop", "z")))
            with yard.trial():
                while yard.changes:
                    yard.undo()
            seen.append(yard.changes)

        self.assertEqual(self.yard.do_all(*self.deeds, watch=watch), 6)
        self.assertEqual(seen, [1, 2, 3, 4, 5, 6])

    def test_all_or_none(self):
        self.yard.do_all(*self.deeds[:3])
        before = told(self.yard)
        for many in range(1, 4):
            with self.assertRaises(WrongName):
                self.yard.do_all(*[("set", "c", self.ring), ("lift", 0), ("drop", "b")][:many], ("drop", "x"))
            self.assertEqual(told(self.yard), before)
        self.yard.undo()
        self.assertEqual(self.yard.claims, ())


class TrialTest(unittest.TestCase):
    def setUp(self):
        self.yard = Yard()
        self.yard["a"], self.yard["b"] = Walker("2 R"), Walker("1", (5, 0))
        self.yard.claim(("apart", "a", "b"))
        self.before = told(self.yard)

    def changed(self, names):
        for name in names:
            self.yard[name] = Walker("3 R", (20, 20))

    def test_what_was_taken_back_within(self):
        with self.yard.trial() as yard:
            self.assertIs(yard, self.yard)
            for _ in range(3):
                yard.undo()
            self.assertEqual(told(yard), ((), (), 0, ()))
            with self.assertRaises(NothingToUndo):
                yard.undo()
            self.changed("xyz")
            self.assertEqual(yard.names, ("x", "y", "z"))
        self.assertEqual(told(self.yard), self.before)
        self.yard.undo()
        self.assertEqual([self.yard.claims, self.yard.changes], [(), 2])

    def test_entered_again(self):
        trial = self.yard.trial()
        self.changed("c")
        for _ in range(3):
            before = told(self.yard)
            with trial as yard:
                self.assertIs(yard, self.yard)
                self.changed("de")
                self.assertEqual(len(yard), len(before[0]) + 2)
            self.assertEqual(told(self.yard), before)
            self.changed("f" + "ghi"[len(before[0]) % 3])

    def test_entered_within_itself(self):
        trial, depth = self.yard.trial(), []
        other = self.yard.trial()
        with trial:
            self.changed("c")
            outer = told(self.yard)
            with trial as yard:
                self.assertIs(yard, self.yard)
                yard.lift(0)
                yard.drop("b")
                inner = told(self.yard)
                with other, trial, trial:
                    self.changed("xy")
                    depth.append(yard.names)
                self.assertEqual(told(self.yard), inner)
            self.assertEqual(told(self.yard), outer)
            with trial:
                self.changed("zz")
            self.assertEqual(told(self.yard), outer)
        self.assertEqual(told(self.yard), self.before)
        self.assertEqual(depth, [("a", "c", "x", "y")])

    def test_ends(self):
        def by_return():
            with self.yard.trial():
                self.changed("c")
                return self.yard.names

        self.assertEqual(by_return(), ("a", "b", "c"))
        self.assertEqual(told(self.yard), self.before)
        for kind in (ZeroDivisionError, KeyboardInterrupt, GeneratorExit, StopIteration, NothingToUndo):
            error = kind()
            with self.assertRaises(kind) as caught:
                with self.yard.trial():
                    self.changed("c")
                    raise error
            self.assertIs(caught.exception, error)
            self.assertEqual(told(self.yard), self.before)
        for way in ("break", "continue"):
            for _ in range(2):
                with self.yard.trial():
                    self.changed("c")
                    if way == "break":
                        break
                    continue
            self.assertEqual(told(self.yard), self.before)

    def test_a_generator_that_is_closed(self):
        def steps():
            with self.yard.trial() as yard:
                self.changed("c")
                yield yard.names

        running = steps()
        self.assertEqual(next(running), ("a", "b", "c"))
        running.close()
        self.assertEqual(told(self.yard), self.before)

    def test_tried(self):
        self.assertEqual(self.yard.tried(len), 2)
        self.assertIsNone(self.yard.tried(work=lambda yard: yard.undo()))
        self.assertEqual(told(self.yard), self.before)
        self.assertIs(self.yard.tried(lambda yard: yard), self.yard)
        self.assertEqual(self.yard.tried(lambda yard: yard.do_all(("lift", 0), ("drop", "a"), ("drop", "b"))), 3)
        self.assertEqual(self.yard.tried(lambda yard: yard.tried(lambda same: (same.undo(), same.claims)[1])), ())
        self.assertEqual(told(self.yard), self.before)
        with self.assertRaises(ZeroDivisionError):
            self.yard.tried(lambda yard: (yard.lift(0), 1 // 0))
        self.assertEqual(told(self.yard), self.before)

    def test_other_yards_are_left_alone(self):
        other = Yard()
        with self.yard.trial(), other.trial():
            with self.yard.trial():
                other["x"] = Walker("2 R")
            self.assertEqual(other.names, ("x",))
        self.assertEqual([other.names, told(self.yard)], [(), self.before])


if __name__ == "__main__":
    unittest.main()
