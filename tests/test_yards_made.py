"""Names, claims and changes of yards, and what each of their methods tells."""

import unittest

from evertreads.errors import InUse, NothingToUndo, UnknownName
from evertreads.walkers import Walker
from evertreads.yards import Yard
from tests.wrong import FAR, NO_NAMES, RefusingTest

RING, LINE, ASIDE = Walker("2 R"), Walker("1", (5, 0)), Walker("1", (0, 9), "E")


def filled():
    yard = Yard()
    yard["ring"], yard["line"], yard["a"] = RING, LINE, ASIDE
    yard.claim(("apart", "ring", "line"))
    yard.claim(("shut", "ring", (1, 1)))
    return yard


def told(yard):
    return yard.names, yard.claims, yard.changes, len(yard), bool(yard)


class NamesTest(RefusingTest):
    def test_empty(self):
        self.assertEqual(told(Yard()), ((), (), 0, 0, False))
        for name in ("a", "abcdefgh"):
            self.assertIs(name in Yard(), False)

    def test_ascending(self):
        yard = Yard()
        for name in ("line", "b", "a", "zzzzzzzz", "aa", "b", "undo"):
            yard[name] = Walker("2 R")
        self.assertEqual(yard.names, ("a", "aa", "b", "line", "undo", "zzzzzzzz"))
        self.assertEqual(told(yard)[1:], ((), 7, 6, True))

    def test_the_walker_itself(self):
        yard = filled()
        for name, walker in (("ring", RING), ("line", LINE), ("a", ASIDE)):
            self.assertIs(yard[name], walker)
            self.assertIs(name in yard, True)
        one, other = Walker("2 R"), Walker("2 R")
        yard["ring"] = one
        self.assertIs(yard["ring"], one)
        yard["ring"] = other
        self.assertIs(yard["ring"], other)
        yard["b"] = other
        self.assertIs(yard["b"], other)
        yard.undo()
        yard.undo()
        self.assertIs(yard["ring"], one)

    def test_any_value(self):
        for yard in (Yard(), filled()):
            before = told(yard)
            for value in NO_NAMES + ("b", "rin", "rings", "zzzzzzzz"):
                self.assertIs(value in yard, False, value)
                self.refused(UnknownName, value, yard.__getitem__, value)
                with self.assertRaises(UnknownName) as caught:
                    yard[value]
                self.assertIs(caught.exception.given, value)
            self.assertEqual(told(yard), before)

    def test_what_was_told_stays(self):
        yard = filled()
        names, claims = yard.names, yard.claims
        yard["b"] = RING
        yard.lift(0)
        yard.drop("a")
        self.assertEqual([names, claims], [("a", "line", "ring"),
                                           (("apart", "ring", "line"), ("shut", "ring", (1, 1)))])
        self.assertEqual([yard.names, yard.claims], [("b", "line", "ring"), (("shut", "ring", (1, 1)),)])


class ClaimsTest(RefusingTest):
    def test_as_they_were_passed(self):
        yard = Yard()
        yard["ring"], yard["line"] = RING, LINE
        claims = (("never", "ring", "line"), ("free", "line", (FAR, FAR)), ("treads", "ring", (0, 2)),
                  ("within", "ring", "ring"), ("shut", "ring", (1, 1)), ("apart", "line", "ring"),
                  ("never", "ring", "line"))
        for claim in claims:
            self.assertIsNone(yard.claim(claim))
        self.assertEqual(yard.claims, claims)
        for claim, kept in zip(claims, yard.claims):
            self.assertIs(claim, kept)
        self.assertIs(type(yard.claims), tuple)

    def test_by_name(self):
        yard = filled()
        self.assertIsNone(yard.claim(claim=("free", "a", (0, 0))))
        self.assertIsNone(yard.lift(index=1))
        self.assertEqual(yard.claims, (("apart", "ring", "line"), ("free", "a", (0, 0))))
        self.assertIsNone(yard.lift(1))
        self.assertIsNone(yard.drop(name="a"))
        self.assertEqual(yard.names, ("line", "ring"))

    def test_lift_keeps_the_order(self):
        claims = [("free", "ring", (5, y)) for y in range(5)]
        for first in range(5):
            yard = filled()
            yard.lift(0)
            yard.lift(0)
            for claim in claims:
                yard.claim(claim)
            self.assertIsNone(yard.lift(first))
            self.assertEqual(list(yard.claims), claims[:first] + claims[first + 1:])

    def test_lifted_claims_do_not_hold(self):
        yard = filled()
        yard.lift(0)
        yard["line"] = Walker("1")
        self.assertEqual(yard["line"].start, (0, 0))
        yard.lift(0)
        yard["ring"] = Walker("1")
        yard.drop("ring")
        self.assertEqual(yard.names, ("a", "line"))

    def test_dropped_and_set_again(self):
        yard = filled()
        yard.lift(1)
        yard.lift(0)
        yard.drop("ring")
        self.refused(UnknownName, "ring", yard.drop, "ring")
        self.refused(UnknownName, "ring", yard.claim, ("free", "ring", (5, 5)))
        yard["ring"] = RING
        self.assertIs(yard["ring"], RING)
        self.assertIs("ring" in yard, True)


class UndoTest(unittest.TestCase):
    def test_back_to_the_empty_yard(self):
        yard = filled()
        yard.lift(0)
        yard.drop("line")
        steps = [(("a", "ring"), 1, 7), (("a", "line", "ring"), 1, 6), (("a", "line", "ring"), 2, 5),
                 (("a", "line", "ring"), 1, 4), (("a", "line", "ring"), 0, 3), (("line", "ring"), 0, 2),
                 (("ring",), 0, 1), ((), 0, 0)]
        for names, many, changes in steps:
            self.assertEqual((yard.names, len(yard.claims), yard.changes), (names, many, changes))
            if changes > 0:
                self.assertIsNone(yard.undo())
        for _ in range(3):
            with self.assertRaises(NothingToUndo):
                yard.undo()
            self.assertEqual(told(yard), ((), (), 0, 0, False))
        yard["a"] = RING
        self.assertEqual(told(yard), (("a",), (), 1, 1, True))

    def test_each_change_counts(self):
        yard = Yard()
        yard["a"] = RING
        yard["a"] = RING
        self.assertEqual(yard.changes, 2)
        yard.claim(("free", "a", (1, 1)))
        yard.claim(("free", "a", (1, 1)))
        yard["a"] = RING
        self.assertEqual(yard.changes, 5)
        yard.undo()
        self.assertEqual((yard.changes, yard.claims, yard["a"]), (4, (("free", "a", (1, 1)),) * 2, RING))
        yard.undo()
        yard.undo()
        yard.undo()
        self.assertEqual((yard.names, yard.claims, yard.changes), (("a",), (), 1))

    def test_what_is_refused_and_what_is_undone_are_no_changes(self):
        yard = filled()
        for call in (lambda: yard.drop("ring"), lambda: yard.drop("x"), lambda: yard.lift(2), lambda: yard.claim(()),
                     lambda: yard.claim(("apart", "a", "line")), lambda: yard.__setitem__("line", Walker("1")),
                     lambda: yard.__setitem__("A", RING), lambda: yard.__setitem__("a", None)):
            with self.assertRaises((ValueError, LookupError, ArithmeticError)):
                call()
            self.assertEqual(yard.changes, 5)
        yard.undo()
        yard["b"] = RING
        self.assertEqual((yard.changes, yard.claims), (5, (("apart", "ring", "line"),)))
        yard.undo()
        yard.undo()
        self.assertEqual((yard.changes, yard.claims), (3, ()))

    def test_claims_of_what_comes_back(self):
        yard = filled()
        yard.lift(0)
        yard.undo()
        with self.assertRaises(InUse) as caught:
            yard.drop("line")
        self.assertEqual(caught.exception.index, 0)
        yard.undo()
        yard.undo()
        self.assertIsNone(yard.drop("line"))

    def test_many_changes(self):
        yard = Yard()
        for _ in range(3000):
            yard["a"] = RING
        self.assertEqual(yard.changes, 3000)
        for _ in range(3000):
            yard.undo()
        self.assertEqual(told(yard), ((), (), 0, 0, False))


class ObjectsTest(unittest.TestCase):
    def test_equal_only_to_themselves(self):
        yard, other = filled(), filled()
        self.assertIs(yard == yard, True)
        self.assertIs(yard != yard, False)
        for value in (other, Yard(), None, 3, (), RING, yard.names):
            self.assertIs(yard == value, False)
            self.assertIs(yard != value, True)
        self.assertIs(Yard() == Yard(), False)

    def test_true_with_names(self):
        yard = Yard()
        self.assertIs(bool(yard), False)
        yard["a"] = RING
        self.assertIs(bool(yard), True)
        yard.drop("a")
        self.assertIs(bool(yard), False)
        self.assertEqual(yard.changes, 2)

    def test_nothing_to_do_with_one_another(self):
        one, other = filled(), filled()
        one.lift(0)
        one["line"] = Walker("1")
        one.drop("a")
        self.assertEqual(told(other), told(filled()))
        self.assertIs(other["line"], LINE)
        while one.changes:
            one.undo()
        self.assertEqual(told(other), told(filled()))

    def test_defined_where_they_are_listed(self):
        self.assertEqual(Yard.__module__, "evertreads.yards")
        for name in ("__init__", "__setitem__", "__getitem__", "__contains__", "__len__", "names", "claims", "drop",
                     "claim", "lift", "undo", "changes", "do_all", "trial", "tried"):
            self.assertIn(name, vars(Yard))

    def test_arguments_that_lack(self):
        yard = filled()
        for call in (lambda: Yard(1), lambda: yard.drop(), lambda: yard.claim(), lambda: yard.lift(),
                     lambda: yard.undo(1), lambda: yard.trial(1), lambda: yard.tried(),
                     lambda: yard.do_all(watch=1, a=2),
                     lambda: yard.drop("a", "b"), lambda: yard.lift(0, 0)):
            with self.assertRaises(TypeError):
                call()
        self.assertEqual(told(yard), told(filled()))


if __name__ == "__main__":
    unittest.main()
