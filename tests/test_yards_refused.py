"""What yards refuse, in which order, and that this changes nothing."""

from evertreads.errors import (Broken, InUse, InvalidClaim, InvalidDeeds, InvalidIndex, InvalidName, NotAWalker,
                               NothingToUndo, UnknownName)
from evertreads.squares import Squares
from evertreads.times import Times
from evertreads.walkers import Walker
from evertreads.yards import Yard
from tests.wrong import FAR, NO_INTEGERS, NO_NAMES, NO_SQUARES, NO_WALKERS, RefusingTest, Same

RING, LINE = Walker("2 R"), Walker("1", (5, 0))
NO_CLAIMS = NO_WALKERS + (
    False, 1, "apart", (), ("apart",), ("apart", "a"), ("apart", "a", "b", "b"), ["apart", "a", "b"],
    ("Apart", "a", "b"), ("", "a", "b"), ("meet", "a", "b"), ("stands", "a", 5), ("open", "a", (5, 5)),
    (b"apart", "a", "b"), (("apart",), "a", "b"), (None, "a", "b"), (Same(), "a", "b"), (Same(), "a", (5, 5)),
    (["apart"], "a", "b"), ({}, "a", "b"), ("a", "apart", "b"), ("apart ", "a", "b"), {"apart": 1, "a": 2, "b": 3},
    "abc", range(3), ("free", "a"), ("free", (5, 5)), ("free", "a", 5, 5), ("shut", "a", (1, 1), ()),
    (("apart", "a", "b"),))


def filled():
    yard = Yard()
    yard["a"], yard["b"], yard["c"] = RING, LINE, RING
    yard.claim(("within", "a", "a"))
    yard.claim(("apart", "a", "b"))
    yard.claim(("free", "a", (9, 9)))
    yard.claim(("never", "b", "a"))
    yard.claim(("treads", "b", (5, FAR)))
    return yard


class YardTest(RefusingTest):
    def setUp(self):
        self.yard = filled()

    def tearDown(self):
        """Nothing was changed by what was refused."""
        yard, same = self.yard, filled()
        self.assertEqual((yard.names, yard.claims, yard.changes), (same.names, same.claims, same.changes))
        for name in yard.names:
            self.assertIs(yard[name], same[name])


class SetTest(YardTest):
    def test_names(self):
        for value in NO_NAMES:
            for walker in (RING, None, Walker("1")):
                self.refused(InvalidName, value, self.yard.__setitem__, value, walker)
                self.refused(InvalidName, value, Yard().__setitem__, value, walker)

    def test_walkers(self):
        for value in NO_WALKERS:
            for name in ("a", "d", "abcdefgh"):
                self.refused(NotAWalker, value, self.yard.__setitem__, name, value)
                self.refused(NotAWalker, value, Yard().__setitem__, name, value)

    def test_names_at_the_limits(self):
        yard = Yard()
        for name in ("a", "z", "abcdefgh", "zzzzzzzz", "drop", "undo"):
            yard[name] = RING
            self.assertIs(yard[name], RING)

    def test_first_failing(self):
        far = Walker("9 R", (30, 30))
        # what is broken by a walker under a or b, in the order of the claims
        for name, walker, index in (("a", LINE, 1), ("b", RING, 1), ("a", Walker("9", (9, 0)), 2),
                                    ("b", Walker("1", (5, -1), "S"), 4), ("b", far, 4), ("a", Walker("5 R"), 1)):
            self.refused_at(Broken, index, self.yard.__setitem__, name, walker)
        self.yard["c"] = LINE
        self.yard.undo()


class DropTest(YardTest):
    def test_names(self):
        for value in NO_NAMES + ("d", "abcdefgh", "within", "apart"):
            self.refused(UnknownName, value, self.yard.drop, value)
            self.refused(UnknownName, value, self.yard.drop, name=value)
            self.refused(UnknownName, value, Yard().drop, value)

    def test_in_use(self):
        self.refused_at(InUse, 0, self.yard.drop, "a")
        self.refused_at(InUse, 1, self.yard.drop, "b")
        self.refused_at(InUse, 1, self.yard.drop, name="b")

    def test_in_use_as_the_second_name(self):
        yard = filled()
        for _ in range(5):
            yard.lift(0)
        yard.claim(("free", "b", (0, 0)))
        yard.claim(("apart", "b", "a"))
        yard.claim(("shut", "a", (1, 1)))
        self.refused_at(InUse, 1, yard.drop, "a")
        self.refused_at(InUse, 0, yard.drop, "b")
        yard.drop("c")
        yard.lift(1)
        self.refused_at(InUse, 1, yard.drop, "a")
        yard.lift(1)
        yard.drop("a")
        self.assertEqual(yard.names, ("b",))


class ClaimTest(YardTest):
    def test_no_claims(self):
        for value in NO_CLAIMS:
            for yard in (self.yard, Yard()):
                self.refused(InvalidClaim, value, yard.claim, value)
                self.refused(InvalidClaim, value, yard.claim, claim=value)

    def test_no_squares(self):
        for word in ("free", "treads", "shut"):
            for value in NO_SQUARES + ("a", "b"):
                for name in ("a", "x", None, [], (0, 0)):
                    claim = (word, name, value)
                    self.refused(InvalidClaim, claim, self.yard.claim, claim)

    def test_unknown_names(self):
        for value in NO_NAMES + ("x", "abcdefgh"):
            for word in ("apart", "never", "within"):
                for claim in ((word, value, "a"), (word, "a", value), (word, value, "b"), (word, value, value)):
                    self.refused(UnknownName, value, self.yard.claim, claim)
                for other in ("y", None, [], (0, 0)):
                    self.refused(UnknownName, value, self.yard.claim, (word, value, other))
            for word in ("free", "treads", "shut"):
                for square in ((0, 0), (9, 9), (FAR, -FAR)):
                    self.refused(UnknownName, value, self.yard.claim, (word, value, square))
            self.refused(UnknownName, value, Yard().claim, ("apart", value, "a"))

    def test_squares_in_the_places_of_names(self):
        square = (0, 0)
        for claim in (("apart", square, "a"), ("apart", "a", square), ("free", square, square)):
            self.refused(UnknownName, square, self.yard.claim, claim)

    def test_broken(self):
        for claim in (("apart", "a", "a"), ("never", "b", "b"), ("within", "a", "b"), ("free", "a", (0, 0)),
                      ("treads", "a", (1, 1)), ("shut", "a", (0, 0)), ("shut", "b", (5, 1)), ("free", "b", (5, FAR)),
                      ("apart", "a", "c")):
            self.refused_at(Broken, 5, self.yard.claim, claim)
        yard = Yard()
        yard["a"] = RING
        self.refused_at(Broken, 0, yard.claim, claim=("never", "a", "a"))


class LiftTest(YardTest):
    def test_indices(self):
        for value in NO_INTEGERS + (-1, -5, 5, 6, FAR, -FAR, 10 ** 79):
            self.refused(InvalidIndex, value, self.yard.lift, value)
            self.refused(InvalidIndex, value, self.yard.lift, index=value)
        for value in (0, -1, 1, None):
            self.refused(InvalidIndex, value, Yard().lift, value)

    def test_at_the_limits(self):
        yard = filled()
        yard.lift(4)
        yard.lift(0)
        self.refused(InvalidIndex, 3, yard.lift, 3)
        self.assertEqual(yard.claims, (("apart", "a", "b"), ("free", "a", (9, 9)), ("never", "b", "a")))


class DeedsTest(YardTest):
    NO_DEEDS = (True, None, 0, "", "set", "drop", b"drop", (), ("set",), ("set", "d"), ("set", "d", RING, 1), ("drop",),
                ("drop", "c", 1), ("claim",), ("claim", "apart", "a", "b"), ("lift",), ("lift", 0, 0), ["drop", "c"],
                ("undo",), ("Drop", "c"), ("drop ", "c"), (b"drop", "c"), (None, "c"), (["drop"], "c"), (Same(), "c"),
                ({}, "c"), ("trial",), ("c", "drop"), {"drop": 1, "c": 2}, {"drop", "c"}, object(), Times(), Squares(),
                RING, ("drop", "c")[:1], ("do_all", ()), ("watch", None), Same(), range(2), (("drop", "c"),))

    def test_no_deeds(self):
        seen = []
        for value in self.NO_DEEDS:
            for at, deeds in ((0, (value,)), (0, (value, ("drop", "c"))), (1, (("drop", "c"), value, None)),
                              (2, (("set", "d", RING), ("drop", "c"), value)), (1, (("drop", "x"), value)),
                              (1, (("lift", -1), value)), (1, (("set", "", None), value)), (0, (value, value))):
                self.refused_at(InvalidDeeds, at, self.yard.do_all, *deeds)
                self.refused_at(InvalidDeeds, at, self.yard.do_all, *deeds, watch=seen.append)
                self.refused_at(InvalidDeeds, at, self.yard.do_all, *deeds, watch=0)
        self.assertEqual(seen, [])

    def test_the_error_of_the_first_that_fails(self):
        good = ("set", "d", RING), ("claim", ("free", "d", (1, 1))), ("lift", 5), ("drop", "c")
        bad = ((InvalidName, "given", "D", ("set", "D", None)), (NotAWalker, "given", None, ("set", "a", None)),
               (Broken, "index", 1, ("set", "b", RING)), (UnknownName, "given", "x", ("drop", "x")),
               (InUse, "index", 1, ("drop", "b")), (InvalidClaim, "given", (), ("claim", ())),
               (UnknownName, "given", 7, ("claim", ("apart", "a", 7))), (InvalidIndex, "given", 5, ("lift", 5)),
               (Broken, "index", 5, ("claim", ("apart", "a", "a"))))
        for kind, attribute, value, deed in bad:
            for ahead in range(5):
                wanted = 6 if deed[0] == "claim" and attribute == "index" and ahead == 2 else value
                rest = good[:ahead] + (deed,) + tuple(other for *_, other in bad)
                if ahead == 2 and deed == ("lift", 5):
                    continue
                seen = []
                with self.assertRaises(kind) as caught:
                    self.yard.do_all(*rest, watch=lambda yard: seen.append(yard.changes))
                self.assertIs(type(caught.exception), kind)
                self.assertEqual(getattr(caught.exception, attribute), wanted)
                self.assertEqual(seen, list(range(9, 9 + ahead)))

    def test_errors_of_watch(self):
        for many in (1, 2, 3):
            seen = []

            def watch(yard):
                seen.append(yard.names)
                if len(seen) == many:
                    raise KeyboardInterrupt(many)

            with self.assertRaises(KeyboardInterrupt):
                self.yard.do_all(("set", "d", RING), ("set", "e", LINE), ("drop", "d"), ("drop", "x"), watch=watch)
            self.assertEqual(seen, [("a", "b", "c", "d"), ("a", "b", "c", "d", "e"), ("a", "b", "c", "e")][:many])

    def test_nothing_to_undo(self):
        for yard in (Yard(), filled()):
            while yard.changes:
                yard.undo()
            with self.assertRaises(NothingToUndo) as caught:
                yard.undo()
            self.assertIs(type(caught.exception), NothingToUndo)
            self.assertEqual(vars(caught.exception), {})


if __name__ == "__main__":
    import unittest
    unittest.main()
