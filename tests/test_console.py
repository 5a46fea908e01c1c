"""What a console answers to lines, what it does with its yard, and what it refuses."""

import random
import unittest

from evertreads.console import Console
from evertreads.errors import Broken, InUse, InvalidText, NothingToUndo, UnknownName
from evertreads.walkers import Walker
from evertreads.yards import Yard
from tests import plain_facts
from tests.plain_facts import told_of
from tests.plain_walk import ROWS
from tests.wrong import FAR, NO_INTEGERS, NO_WALKERS, RefusingTest

FIRST = ("a = 2 R from 0,0 to N", "b = 1 from 5,0 to N", "a apart b", "a shut 1,1")


def console_of(*lines):
    console = Console()
    for line in lines:
        console.say(line)
    return console


def told(yard):
    return yard.names, yard.claims, yard.changes, tuple(str(yard[name]) for name in yard.names)


class ChangingTest(RefusingTest):
    def test_setting(self):
        console = Console()
        for row in ROWS + ("1", "9 9 9 9 9 9 9 9", "R L B 1 R L B R"):
            for start, way in (((0, 0), "N"), ((-7, 12), "E"), ((FAR, -FAR), "S"), ((-FAR, FAR), "W")):
                text = f"{row} from {start[0]},{start[1]} to {way}"
                self.assertEqual(console.say(f"a = {text}"), text)
                self.assertEqual(told_of(console.yard["a"]), (row, start, way))
                self.assertEqual(str(console.yard["a"]), text)
                self.assertEqual(console.say("a at 0"), f"{start[0]},{start[1]}")

    def test_turned_and_mirrored(self):
        console = console_of("a = 4 L 2 R B 1 from 3,-5 to E")
        for line, answer in (("b = a turned", "4 L 2 R B 1 from -5,-3 to S"),
                             ("c = a mirrored", "4 R 2 L B 1 from -3,-5 to W"),
                             ("a = a turned", "4 L 2 R B 1 from -5,-3 to S"),
                             ("a = a turned", "4 L 2 R B 1 from -3,5 to W"),
                             ("c = b mirrored", "4 R 2 L B 1 from 5,-3 to S"),
                             ("turned = c turned", "4 R 2 L B 1 from -3,-5 to W"),
                             ("mirrored = turned mirrored", "4 L 2 R B 1 from 3,-5 to E")):
            self.assertEqual(console.say(line), answer)
            self.assertEqual(str(console.yard[line.split(" ")[0]]), answer)
        self.assertEqual(console.yard.names, ("a", "b", "c", "mirrored", "turned"))
        self.assertEqual(console.yard.changes, 8)

    def test_drop_and_undo(self):
        console = console_of(*FIRST[:2])
        self.assertEqual([console.say("drop a"), console.yard.names], ["ok", ("b",)])
        self.assertEqual([console.say("undo"), console.yard.names], ["ok", ("a", "b")])
        self.assertEqual([console.say("undo"), console.say("undo"), console.yard.names], ["ok", "ok", ()])
        with self.assertRaises(NothingToUndo):
            console.say("undo")
        self.assertEqual(console.yard.changes, 0)

    def test_claims(self):
        console = console_of(*FIRST[:2])
        lines = {"a apart b": ("apart", "a", "b"), "b never a": ("never", "b", "a"), "a within a": ("within", "a", "a"),
                 f"b free {FAR},{-FAR}": ("free", "b", (FAR, -FAR)), "b treads 5,17": ("treads", "b", (5, 17)),
                 "a shut 1,1": ("shut", "a", (1, 1)), "a free -1,-1": ("free", "a", (-1, -1))}
        for line in lines:
            self.assertEqual(console.say(line), "ok")
        self.assertEqual(console.yard.claims, tuple(lines.values()))
        self.assertEqual(console.yard.changes, 9)

    def test_names_that_are_words(self):
        words = ("drop", "undo", "at", "on", "meets", "from", "to", "turned", "mirrored", "apart", "never", "within",
                 "free", "treads", "shut", "a", "z", "zzzzzzzz")
        console = Console()
        for word in words:
            self.assertEqual(console.say(f"{word} = 2 R from 0,0 to N"), "2 R from 0,0 to N")
            self.assertEqual([console.say(f"{word} at 3"), console.say(f"{word} on 1,1")], ["1,2", "0"])
            self.assertEqual(console.say(f"drop meets {word}"), "0")
            self.assertEqual(console.say(f"{word} within {word}"), "ok")
            self.assertEqual(console.say("undo"), "ok")
            self.assertEqual(console.say(f"{word} = {word} mirrored"), "2 L from 0,0 to N")
            self.assertEqual(console.say(f"{word} = {word} mirrored"), "2 R from 0,0 to N")
        self.assertEqual(console.yard.names, tuple(sorted(words)))
        for word in words:
            self.assertEqual(console.say(f"drop {word}"), "ok")
        self.assertEqual(console.yard.names, ())

    def test_broken(self):
        for line, index in (("b = 1 from 1,0 to N", 0), ("b = a turned", 0), ("a = b mirrored", 1),
                            ("a = 1 R from 0,0 to N", 1), ("a = 9 from 9,9 to N", 1), ("a = 9 R from 0,0 to N", 0),
                            ("a treads 1,1", 2), ("a within b", 2), ("a apart a", 2), ("b never b", 2),
                            ("b shut 0,0", 2), ("a free 0,0", 2)):
            console = console_of(*FIRST)
            before = told(console.yard)
            self.refused_at(Broken, index, console.say, line)
            self.assertEqual(told(console.yard), before)
        console = console_of(*FIRST)
        self.refused_at(InUse, 0, console.say, "drop a")
        self.refused_at(InUse, 0, console.say, line="drop b")


class AskingTest(unittest.TestCase):
    def test_answers(self):
        console = console_of("ring = 2 R from 0,0 to N", "comb = 4 L 2 L 2 L 2 L from 0,0 to E", "up = 1 from 0,1 to N",
                             f"far = 1 from {-FAR},{FAR} to E", "low = 1 from 0,0 to N")
        for line, answer in (("ring at 0", "0,0"), ("ring at 11", "1,2"), (f"ring at {FAR}", "0,0"),
                             ("comb at 25", "8,1"), (f"comb at {FAR}", f"{2 * 10 ** 29},0"),
                             ("far at 5", f"{5 - FAR},{FAR}"), (f"far at {FAR}", f"0,{FAR}"),
                             (f"up at {FAR}", f"0,{FAR + 1}"), ("ring on 0,2", "endless"), ("ring on 1,1", "0"),
                             ("comb on 4,0", "3"), ("comb on 0,0", "1"), ("up on 0,0", "0"), (f"up on 0,{FAR}", "1"),
                             (f"comb on {-FAR},{FAR}", "0"), ("up meets ring", "never"), ("ring meets ring", "0"),
                             ("ring meets low", "0"), ("up meets far", "never"), ("low meets far", str(FAR)),
                             ("far meets low", str(FAR)), ("comb meets comb", "0"), ("up meets low", "never")):
            self.assertEqual(console.say(line), answer, line)
            self.assertEqual(console.say(line=line), answer)

    def test_later_than_a_time(self):
        console = console_of("a = 2 B 1 B from 0,0 to N", f"b = 1 from 0,{-FAR} to N")
        first = plain_facts.meets_first(told_of(console.yard["a"]), told_of(console.yard["b"]))
        self.assertGreater(first, FAR)
        self.assertEqual(console.say("a meets b"), str(first))

    def test_any_walkers(self):
        draw = random.Random(1)
        for _ in range(60):
            console, both = Console(), []
            for name in "ab":
                start = draw.randint(-5, 5), draw.randint(-5, 5)
                both.append((draw.choice(ROWS), start, draw.choice("NESW")))
                row, (x, y), way = both[-1]
                console.say(f"{name} = {row} from {x},{y} to {way}")
            before = told(console.yard)
            first = plain_facts.meets_first(*both)
            self.assertEqual(console.say("a meets b"), "never" if first is None else str(first))
            for time in (0, 7, draw.randint(0, 500)):
                x, y = plain_facts.on(both[0], time)
                self.assertEqual(console.say(f"a at {time}"), f"{x},{y}")
                closed = plain_facts.run(both[0])[1] == (0, 0)
                self.assertEqual(console.say(f"a on {x},{y}"),
                                 "endless" if closed else str(len(plain_facts.times_on(both[0], (x, y)))))
            self.assertEqual(told(console.yard), before)


class YardTest(unittest.TestCase):
    def test_the_yard_that_lines_change(self):
        console = Console()
        yard = console.yard
        self.assertIs(type(yard), Yard)
        self.assertEqual(told(yard), told(Yard()))
        console.say(FIRST[0])
        self.assertIs(console.yard, yard)
        yard["c"] = Walker("1", (0, 9), "E")
        self.assertEqual(console.say("c at 4"), "4,9")
        self.assertEqual(console.say("c = c turned"), "1 from 9,0 to S")
        yard.claim(("treads", "c", (9, -5)))
        with self.assertRaises(Broken):
            console.say("c = a turned")
        self.assertEqual([console.say("undo"), console.say("undo"), console.say("c at 0")], ["ok", "ok", "0,9"])
        yard.drop("c")
        with self.assertRaises(UnknownName):
            console.say("c at 0")
        self.assertEqual(console.say("undo"), "ok")
        self.assertEqual([yard.names, yard.changes], [("a", "c"), 2])
        with yard.trial():
            console.say("drop a")
        self.assertEqual(yard.names, ("a", "c"))

    def test_walkers_from_beyond_the_grid(self):
        console = Console()
        console.yard["a"] = Walker("1", (FAR, 5), "E").moved(FAR, 0)
        self.assertEqual(console.say("b = a turned"), f"1 from 5,{-2 * FAR} to S")
        self.assertEqual(console.say("b = a mirrored"), f"1 from {-2 * FAR},5 to W")
        self.assertEqual([console.say("a at 3"), console.say("a on 0,5")], [f"{2 * FAR + 3},5", "0"])

    def test_nothing_to_do_with_one_another(self):
        one, other = console_of(*FIRST), console_of(*FIRST)
        self.assertIsNot(one.yard, other.yard)
        one.say("undo")
        one.say("c = b turned")
        self.assertEqual(told(other.yard), told(console_of(*FIRST).yard))

    def test_objects(self):
        one, other = Console(), Console()
        self.assertEqual([one == one, one == other, one != other, one == None, bool(one)],  # noqa: E711
                         [True, False, True, False, True])
        self.assertEqual(Console.__module__, "evertreads.console")
        for name in ("__init__", "say", "yard"):
            self.assertIn(name, vars(Console))
        for call in (lambda: Console(1), lambda: one.say(), lambda: one.say("undo", "undo")):
            with self.assertRaises(TypeError):
                call()


class RefusedTest(RefusingTest):
    def setUp(self):
        self.console = console_of(*FIRST)
        self.before = told(self.console.yard)

    def tearDown(self):
        self.assertEqual(told(self.console.yard), self.before)

    def invalid(self, *values):
        for value in values:
            self.refused(InvalidText, value, self.console.say, value)
            self.refused(InvalidText, value, self.console.say, line=value)
            self.refused(InvalidText, value, Console().say, value)

    def test_no_texts(self):
        for value in NO_WALKERS + NO_INTEGERS:
            self.invalid(value)
        self.invalid(b"undo", ["undo"], ("drop", "a"), ("undo",), ("a at 5",), Walker("2 R"), Yard(), Console())

    def test_no_lines(self):
        self.invalid("", " ", "a", "ab cd", "drop", "drop a b", "undo a", "undo undo", "a drop", "a undo", "a =", "= a",
                     "a = b", "a b c", "a at", "at 5", "a at 5 6", "a on", "a on 5", "a meets", "a meets b c",
                     "meets a b", "a a a", "lift 0", "claim a", "a lift 0", "a turned", "turned a", "a = turned",
                     "a = b turned mirrored", "a = b moved", "a = b Turned", "a == b turned", "a=b turned",
                     "a = = turned", "a is b turned", "A = b turned", "a = B turned", "a squares", "names", "help",
                     "a stands 0,0", "a open 5,5", "a meet b", "a near 0,0", "do undo", "set a b", "a APART b",
                     "Drop a", "UNDO")

    def test_spaces(self):
        for line in ("drop a", "undo", "a apart b", "a free 5,5", "a at 5", "a on 5,5", "a meets b", "c = a turned",
                     "c = 2 R from 0,0 to N"):
            self.invalid(" " + line, line + " ", line + "\n", "\t" + line, line.upper(), line + " a", "\n" + line,
                         line + "\x00", line + ".", line + ";")
            if " " in line:
                self.invalid(line.replace(" ", "  "), line.replace(" ", "\t"), line.replace(" ", "\u00a0"),
                             line.replace(" ", "  ", 1), line.replace(" ", ""), line.replace(" ", "\n", 1))

    def test_names(self):
        for name in ("", "A", "aB", "abcdefghi", "a1", "1", "a-b", "a,b", "\u00e4", "\u0430", "a.", "=", "'a'", "_",
                     "a\n"):
            self.invalid(f"{name} = 2 R from 0,0 to N", f"{name} = a turned", f"c = {name} turned",
                         f"c = {name} mirrored", f"drop {name}", f"{name} apart a", f"a never {name}",
                         f"{name} within x", f"x within {name}", f"{name} free 0,0", f"{name} shut 0,0",
                         f"{name} treads 0,0", f"{name} at 5", f"{name} on 0,0", f"{name} meets a", f"a meets {name}")

    def test_integers(self):
        for text in ("", "+1", "-0", "00", "01", "-01", "--1", "1.0", "1e3", "1_0", " 1", "0x1", "one", "\u0661",
                     "\u00b2", "-", "\uff11", "1-", "True", "None", str(FAR + 1), str(-FAR - 1), "9" * 79,
                     "-" + "9" * 79, "0" * 31, "(1)"):
            self.invalid(f"a on {text},0", f"a on 0,{text}", f"a shut {text},0", f"a free 0,{text}",
                         f"a treads {text},0", f"x free {text},0", f"c = 2 R from {text},0 to N",
                         f"c = 2 R from 0,{text} to N", f"a at {text}", f"x at {text}")
        self.invalid("a at -1", f"a at {-FAR}", "a on 0", "a on 0,0,0", "a on ,", "a on 0;0", "a on (0,0)", "a on 0,",
                     "a on ,0", "a on 0, 0", "a free 0", "c = 2 R from 0 to N", "c = 2 R from 0,0,0 to N",
                     "c = 2 R from (0,0) to N")

    def test_rows_and_ways(self):
        for row in ("", "R", "R L B", "0", "10", "2R", "2 r", "1 2 3 4 5 6 7 8 9", "2  R", "2 X", "2,R", "-1", "\u0662",
                    "from", "N"):
            self.invalid(f"c = {row} from 0,0 to N", f"a = {row} from 0,0 to N")
        for way in ("", "n", "NE", "X", "north", "0", "'N'", "\u004e\u0301"):
            self.invalid(f"c = 2 R from 0,0 to {way}")
        self.invalid("c = 2 R", "c = 2 R from 0,0", "c = 2 R to N", "c = from 0,0 to N", "c = 2 R to N from 0,0",
                     "c = 2 R 0,0 N", "c = 2 R from 0,0 at N", "c = 2 R at 0,0 to N", "2 R from 0,0 to N",
                     "c 2 R from 0,0 to N", "c = 2 R from 0,0 to N N", "c = 2 R from 0,0 to", "c = 2 R from 0,0 N",
                     "c := 2 R from 0,0 to N", "c d = 2 R from 0,0 to N", "c = 2 R From 0,0 To N",
                     "c = 2 R from 0,0 from 0,0 to N")

    def test_unknown_names(self):
        for line, name in (("drop x", "x"), ("x apart a", "x"), ("a apart x", "x"), ("x apart y", "x"),
                           ("y never x", "y"), ("a within abcdefgh", "abcdefgh"), ("x free 0,0", "x"),
                           ("x treads 0,0", "x"), ("x shut 1,1", "x"), ("x at 5", "x"), (f"x at {FAR}", "x"),
                           ("x on 0,0", "x"), ("x meets a", "x"), ("a meets x", "x"), ("y meets x", "y"),
                           ("c = x turned", "x"), ("c = x mirrored", "x"), ("a = x turned", "x"), ("x = x turned", "x"),
                           ("c = c mirrored", "c"), ("x at 0", "x"), ("drop drop", "drop"), ("drop undo", "undo"),
                           ("undo at 0", "undo")):
            with self.assertRaises(UnknownName) as caught:
                self.console.say(line)
            self.assertIs(type(caught.exception), UnknownName)
            self.assertEqual(caught.exception.given, name, line)

    def test_at_the_limits(self):
        console = console_of("abcdefgh = 1 2 3 4 5 6 7 8 from 0,0 to N")
        for line in (f"abcdefgh on {FAR},{-FAR}", f"abcdefgh on {-FAR},{FAR}", "abcdefgh at 0", f"abcdefgh at {FAR}",
                     f"a = 9 from {FAR},{FAR} to E", f"a = 9 from {-FAR},{-FAR} to E", f"abcdefgh free {FAR},{FAR}"):
            self.assertIs(type(console.say(line)), str)


if __name__ == "__main__":
    unittest.main()
