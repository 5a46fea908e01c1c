"""When and where two walkers come together, compared with walks made step by step."""

import math
import random
import unittest

from evertreads.errors import NotAWalker
from evertreads.meeting import common, meeting, same_squares, same_walk
from evertreads.squares import Squares
from evertreads.times import Times
from evertreads.walkers import Walker
from tests.plain_walk import ROWS, box_about, walk
from tests.wrong import FAR, NO_WALKERS, RefusingTest

STEPS = 1500


def pairs(many):
    """Pairs of (walker, squares at the first times)."""
    draw = random.Random(1)
    found = []
    for _ in range(2 * many):
        row, start, way = draw.choice(ROWS), (draw.randint(-9, 9), draw.randint(-9, 9)), draw.choice("NESW")
        found.append((Walker(row, start, way), walk(row, start, way, STEPS)[0]))
    return list(zip(found[::2], found[1::2]))


class MeetingTest(unittest.TestCase):
    def test_step_by_step(self):
        for (walker, squares), (other, others) in pairs(150):
            times = meeting(walker, other)
            self.assertIs(type(times), Times)
            met = [time for time in range(STEPS + 1) if squares[time] == others[time]]
            self.assertEqual([time for time in range(STEPS + 1) if time in times], met, (walker, other))
            self.assertEqual(meeting(other, walker), times)
            self.assertEqual(meeting(other=other, walker=walker), times)
            if times.endless:
                self.assertEqual(times.numbers, ())
                self.assertEqual(math.lcm(walker.period, other.period) % times.period, 0)
            for time in times.ascending(5):
                self.assertEqual(walker.at(time), other.at(time))

    def test_far(self):
        up, aside = Walker("1"), Walker("1", (-FAR, FAR), "E")
        self.assertEqual(meeting(up, aside), Times(FAR))
        self.assertEqual(meeting(up, Walker("1", (-FAR, FAR - 1), "E")), Times())
        self.assertEqual(meeting(up, Walker("1", (0, FAR), "S")), Times(FAR // 2))
        self.assertEqual(meeting(up, Walker("1", (0, FAR - 1), "S")), Times())
        late = meeting(up.moved(0, -FAR), Walker("1", (0, FAR), "S").moved(0, FAR).moved(0, FAR))
        self.assertEqual(late.numbers, (2 * FAR,))
        self.assertIs(2 * FAR in late, True)
        # three on in five steps, and one in one: they come nearer by 2 in 5
        slow, fast = Walker("4 B 1 B", (0, FAR), "E").turned().turned().turned(), Walker("1", (-FAR, 0))
        self.assertEqual([slow.drift, slow.start], [(0, 3), (-FAR, 0)])
        self.assertEqual(meeting(slow, fast).first, 0)
        times = meeting(slow.moved(0, FAR), fast)
        self.assertEqual(times.many, len(times.numbers))
        self.assertEqual(set(times.numbers), {time for time in range(5 * FAR // 2 - 60, 5 * FAR // 2 + 60)
                                              if self.slow_at(time) + FAR == time})

    def slow_at(self, time):
        rounds, rest = divmod(time, 5)
        return 3 * rounds + (0, 1, 2, 3, 4)[rest]

    def test_with_itself(self):
        for row in ROWS:
            walker = Walker(row, (3, 4), "S")
            self.assertEqual(meeting(walker, walker), Times(period=1, marks=(0,)))
            self.assertEqual(meeting(walker, Walker(row, (3, 4), "S")), Times(period=1, marks=(0,)))
            for dx, dy in ((0, 1), (-1, 0), (2, 0), walker.drift, (FAR, FAR)):
                if (dx, dy) != (0, 0):
                    self.assertEqual(meeting(walker, walker.moved(dx, dy)), Times(), (row, dx, dy))
                    self.assertEqual(meeting(walker.moved(dx, dy), walker), Times())

    def test_long_common_periods(self):
        one, other = Walker("9 9 9 9 9 9 9 R"), Walker("9 9 9 9 9 9 7 R", (3, 5), "E")
        times = meeting(one, other)
        length = math.lcm(one.period, other.period)
        self.assertEqual(length, 15372)
        met = [time for time in range(length) if one.at(time) == other.at(time)]
        self.assertEqual([times.period, times.marks, times.numbers], [length, tuple(met), ()])


class CommonTest(unittest.TestCase):
    def test_near(self):
        for (walker, squares), (other, others) in pairs(60):
            both = common(walker, other)
            self.assertIs(type(both), Squares)
            low, high, bottom, top = box_about([*squares[:60], *others[:60]], 0)
            box = [(x, y) for x in range(low, high + 1) for y in range(bottom, top + 1)]
            trodden, others_trodden = set(squares), set(others)
            for square in box[::max(1, len(box) // 300)] + squares[:60]:
                self.assertIs(square in both, square in trodden and square in others_trodden)
            self.assertEqual(both, common(other, walker))
            self.assertEqual(both, common(other=other, walker=walker))
            self.assertEqual(both & walker.squares(), both)
            if walker.closed and other.closed:
                self.assertEqual(both.many, len(trodden & others_trodden))

    def test_far(self):
        up, aside = Walker("1"), Walker("1", (-FAR, FAR), "E")
        self.assertEqual(common(up, aside), Squares((0, FAR)))
        self.assertEqual(common(up, Walker("1", (0, FAR), "S")).many, FAR + 1)
        self.assertEqual(common(up, Walker("1", (0, -FAR))), Squares((0, 0, 0, 1)))
        self.assertEqual(common(up, Walker("1", (1, -FAR))), Squares())
        self.assertIs(common(up, Walker("2 R 2 L")).endless, False)
        # both tread these squares, though never at the same time
        self.assertEqual(common(Walker("2 R"), Walker("2 R", (0, 1))),
                         Squares((0, 1), (0, 2), (2, 1), (2, 2)))

    def test_with_itself(self):
        for row in ROWS:
            walker = Walker(row, (-7, 2), "E")
            self.assertEqual(common(walker, walker), walker.squares())


class SameTest(unittest.TestCase):
    def test_same_walk(self):
        for one, other, same, alike in (
                (("1",), ("9 3",), True, True), (("1 1",), ("2",), True, True), (("2 R",), ("1 1 R",), True, True),
                (("2 R",), ("2 L",), False, False), (("2 R",), ("2 L", (0, 0), "E"), False, True),
                (("2 R",), ("2 R", (0, 2), "E"), False, True), (("2 R",), ("R 2", (0, 0), "W"), True, True),
                (("2 R",), ("2 R 2 R",), True, True), (("2 R",), ("2 R 2",), False, False),
                (("1",), ("1", (0, 1)), False, False), (("1 B",), ("1 B", (0, 1), "S"), False, True),
                (("1 B",), ("B 1",), False, False), (("5 B 2 B",), ("1",), False, True),
                (("5 B 2 B",), ("2 3 B 1 1 B",), True, True), (("B 1 B",), ("1",), False, False),
                (("4 R",), ("4 R", (FAR, 0)), False, False), (("R L 3",), ("3",), True, True),
                (("B 3",), ("3 B", (0, 0), "S"), True, True)):
            walker, another = Walker(*one), Walker(*other)
            self.assertIs(same_walk(walker, another), same, (one, other))
            self.assertIs(same_walk(other=walker, walker=another), same)
            self.assertIs(same_squares(walker, another), alike, (one, other))
            self.assertIs(same_squares(other=walker, walker=another), alike)
            if same:
                self.assertEqual(meeting(walker, another), Times(period=1, marks=(0,)))

    def test_step_by_step(self):
        for (walker, squares), (other, others) in pairs(100):
            self.assertIs(same_walk(walker, other), squares == others)
            self.assertIs(same_walk(walker, walker), True)
            self.assertIs(same_squares(walker, walker), True)
            if same_squares(walker, other):
                self.assertEqual(set(squares[:300]) - set(others), set())
            self.assertIs(same_squares(walker, other), walker.squares() == other.squares())

    def test_begun_later(self):
        for row in ROWS:
            walker = Walker(row, (1, 1), "W")
            run = sum(int(order) for order in row.split(" ") if order.isdigit())
            runs = walker.period // math.gcd(run, walker.period)
            later = Walker(row, walker.at(runs * run), "W")
            if walker.closed:
                self.assertIs(same_squares(walker, later), True)
            else:
                self.assertEqual(later.squares() - walker.squares(), Squares())
                self.assertIs(same_squares(walker, later), False)


class RefusedTest(RefusingTest):
    def test_walkers(self):
        walker = Walker("2 R")
        for call in (meeting, common, same_walk, same_squares):
            for value in NO_WALKERS:
                self.refused(NotAWalker, value, call, value, walker)
                self.refused(NotAWalker, value, call, walker, value)
                self.refused(NotAWalker, value, call, value, None)
                self.refused(NotAWalker, value, call, walker=value, other=walker)
                self.refused(NotAWalker, value, call, other=value, walker=walker)
                self.refused(NotAWalker, value, call, other=[], walker=value)
            for wrong in (lambda: call(walker), lambda: call(), lambda: call(walker, walker, walker)):
                with self.assertRaises(TypeError):
                    wrong()

    def test_defined_where_they_are_listed(self):
        for call in (meeting, common, same_walk, same_squares):
            self.assertEqual(call.__module__, "evertreads.meeting")


if __name__ == "__main__":
    unittest.main()
