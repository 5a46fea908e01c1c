"""The examples of the document, word for word."""

import doctest
import unittest

from evertreads.errors import Broken

TIMES = r"""
>>> from evertreads.times import Times
>>> odd, some = Times(period=2, marks=(1,)), Times(2, 3, 10 ** 20)
>>> [odd & some, (odd | some).first, 4 in odd | some, some.many, list((odd - some).ascending(3)), Times(period=4, marks=(0, 2)) == Times(period=2, marks=(0,)), odd.endless]
[Times(3, period=1, marks=()), 1, False, 3, [1, 5, 7], True, True]
"""

SQUARES = r"""
>>> from evertreads.squares import Squares
>>> even, line = Squares((0, 0, 2, 0), (0, 3)), Squares((0, 0, 1, 0))
>>> [(8, 0) in even, (even - line).many, (line - even).near((0, 0), 5), line & even == Squares((0, 0), (2, 0, 4, 0), (4, 0, 4, 0)), (line - even).endless, bool(even - even)]
[True, 1, ((1, 0), (3, 0), (5, 0)), True, True, False]
"""

WALKERS = r"""
>>> from evertreads.squares import Squares
>>> from evertreads.walkers import Walker
>>> ring, comb = Walker("2 R"), Walker("4 L 2 L 2 L 2 L", way="E")
>>> [ring.at(10 ** 30), ring.goes(3), ring.period, ring.closed, ring.times((0, 1)), comb.at(25), comb.drift, comb.times((4, 0)), comb.squares() == Squares((0, 0, 1, 0), (2, 2, 1, 0), (2, 1, 2, 0)), comb.trodden(1) == Squares((0, 0), (1, 0), (2, 1), (2, 2), (3, 2, 2, 0)), str(comb.moved(1, -1).turned())]
[(0, 0), 'E', 8, True, Times(period=8, marks=(1,)), (8, 1), (2, 0), Times(4, 12, 20, period=1, marks=()), True, True, '4 L 2 L 2 L 2 L from -1,-1 to S']
"""

MEETING = r"""
>>> from evertreads.meeting import common, meeting, same_squares, same_walk
>>> from evertreads.walkers import Walker
>>> up, aside = Walker("1"), Walker("1", (-5, 5), "E")
>>> [meeting(up, aside), common(up, Walker("2 R", (0, 7))).many, same_walk(up, Walker("9 3")), same_squares(Walker("2 R"), Walker("2 L", way="E")), meeting(Walker("1 B"), Walker("2 B"))]
[Times(5, period=1, marks=()), 3, True, True, Times(period=4, marks=(0, 1, 3))]
"""

SHUT = r"""
>>> from evertreads.shut import chamber, shut, way_out
>>> from evertreads.squares import Squares
>>> from evertreads.walkers import Walker
>>> comb = Walker("4 L 2 L 2 L 2 L", way="E")
>>> [chamber(Walker("3 R"), (1, 2)), shut(comb) == Squares((3, 1, 2, 0)), chamber(comb, (10 ** 30, 1)), way_out(comb, (1, 1)), way_out(comb, (5, 1))]
[((1, 1), (1, 2), (2, 1), (2, 2)), True, None, (((1, 1),), 'N'), None]
"""

YARDS = r"""
>>> from evertreads.walkers import Walker
>>> from evertreads.yards import Yard
>>> yard = Yard()
>>> done = yard.do_all(("set", "a", Walker("2 R")), ("set", "b", Walker("1", (5, 0))), ("claim", ("apart", "a", "b")), ("claim", ("shut", "a", (1, 1))))
>>> yard.undo()
>>> [done, yard.names, yard.claims, yard.changes, yard.tried(len), yard.undo(), len(yard.claims)]
[4, ('a', 'b'), (('apart', 'a', 'b'),), 3, 2, None, 0]
"""

BROKEN = r"""
>>> from evertreads.walkers import Walker
>>> from evertreads.yards import Yard
>>> yard = Yard()
>>> done = yard.do_all(("set", "a", Walker("1")), ("set", "b", Walker("1", (-5, 5), "E")))
>>> yard.claim(("never", "a", "b"))
raises Broken(index=0)
"""

CERTIFICATES = r"""
>>> from evertreads.certificates import certify_meeting, certify_pair, certify_square
>>> from evertreads.checker import accepts
>>> from evertreads.walkers import Walker
>>> ring, line = Walker("2 R"), Walker("1", (0, 1))
>>> claim, paper = certify_square(ring, (1, 1))
>>> [claim, paper, accepts(claim, paper), accepts(claim, ()), certify_meeting(line, ring), certify_pair(ring, line)]
[('shut', ('2 R', (0, 0), 'N'), (1, 1)), ((1, 1),), True, False, (('never', ('1', (0, 1), 'N'), ('2 R', (0, 0), 'N')), ()), None]
"""

CONSOLE = r"""
>>> from evertreads.console import Console
>>> console = Console()
>>> [console.say("a = 2 R from 0,0 to N"), console.say("b = 1 from -5,1 to E"), console.say("a at 11"), console.say("a on 0,2"), console.say("b on 3,1"), console.say("a meets b"), console.say("a shut 1,1"), console.say("c = b turned")]
['2 R from 0,0 to N', '1 from -5,1 to E', '1,2', 'endless', '1', 'never', 'ok', '1 from 1,5 to S']
"""


class ExamplesTest(unittest.TestCase):
    def as_told(self, text):
        test = doctest.DocTestParser().get_doctest(text, {}, "example", "DOC.md", 0)
        self.assertGreater(len(test.examples), 1)
        told = []
        failed, tried = doctest.DocTestRunner(verbose=False).run(test, out=told.append)
        self.assertEqual([failed, tried], [0, len(test.examples)], "".join(told))

    def test_times(self):
        self.as_told(TIMES)

    def test_squares(self):
        self.as_told(SQUARES)

    def test_walkers(self):
        self.as_told(WALKERS)

    def test_meeting(self):
        self.as_told(MEETING)

    def test_shut(self):
        self.as_told(SHUT)

    def test_yards(self):
        self.as_told(YARDS)

    def test_broken(self):
        # told as an error of the last row
        rows, error = BROKEN.split("raises ")
        self.assertEqual(error, "Broken(index=0)\n")
        head, last = rows.rsplit(">>> ", 1)
        names = {}
        exec(head.replace(">>> ", ""), names)
        with self.assertRaises(Broken) as caught:
            exec(last, names)
        self.assertEqual([type(caught.exception), caught.exception.index], [Broken, 0])

    def test_certificates(self):
        self.as_told(CERTIFICATES)

    def test_console(self):
        self.as_told(CONSOLE)


if __name__ == "__main__":
    unittest.main()
