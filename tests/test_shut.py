"""What walkers shut in and how one gets out, compared with the ground filled square by square."""

import random
import unittest

from evertreads.errors import InvalidSquare, NotAWalker
from evertreads.shut import chamber, shut, way_out
from evertreads.squares import Squares
from evertreads.walkers import Walker
from tests.plain_ground import Ground, grounds, random_rows
from tests.plain_walk import ROWS, beside, is_clear, steps_out
from tests.wrong import FAR, NO_SQUARES, NO_WALKERS, RefusingTest


class PlainTest(unittest.TestCase):
    def compared(self, ground, most=150):
        walker, held = ground.walker, shut(ground.walker)
        self.assertIs(type(held), Squares)
        draw = random.Random(5)
        squares = ground.squares if len(ground.squares) <= most else draw.sample(ground.squares, most)
        for square in squares:
            room = ground.rooms.get(square)
            self.assertEqual(chamber(walker, square), room, (walker, square))
            self.assertIs(square in held, room is not None, (walker, square))
            way = way_out(walker, square)
            self.assertEqual(way is None, square in ground.trodden or room is not None, (walker, square))
            if way is not None:
                self.out(ground, square, way)

    def out(self, ground, square, told):
        passed, way = told
        self.assertEqual([type(told), type(passed), passed[0]], [tuple, tuple, square])
        for spot, behind in zip(passed, passed[1:]):
            self.assertIn(behind, beside(spot))
        self.assertFalse(any(spot in ground.trodden for spot in passed))
        self.assertFalse(any(is_clear(ground.ends, spot, any_way) for spot in passed[:-1] for any_way in "NESW"))
        self.assertEqual([any_way for any_way in "NESW" if is_clear(ground.ends, passed[-1], any_way)][:1], [way],
                         (ground.walker, square))
        self.assertEqual(len(passed) - 1, steps_out(ground.trodden, ground.ends, square))

    def test_rings_lines_combs_and_stairs(self):
        for ground in grounds(ROWS):
            self.compared(ground)

    def test_other_rows(self):
        for ground in grounds(random_rows(3, 60)):
            self.compared(ground, 80)

    def test_longest_rows(self):
        for row in ("9 9 9 9 9 9 9 R", "9 R 9 R 8 R 9 R", "9 R 9 L 9 R 9 L", "9 L 9 L 7 L 4 L", "9 R 4 R 6 R 8 R",
                    "9 R 6 R 4 R 9 R", "9 B 9 R 9 L 9 R", "9 9 9 9 9 9 9 9"):
            self.compared(Ground(row, (0, 0), "W"), 60)

    def test_long_ways_out(self):
        for row, square, many in (("4 R 9 R 9 R 7 R", (8, 1), 8), ("5 R 3 R 7 R 9 R", (1, 4), 8),
                                  ("5 R 8 R 9 R 5 R", (7, 4), 6), ("2 R 4 B 3 L 9 R", (8, -1), 4)):
            ground = Ground(row, (0, 0), "N")
            told = way_out(ground.walker, square)
            self.assertEqual(len(told[0]), many)
            self.out(ground, square, told)
            self.compared(ground)

    def test_closed_whole(self):
        for ground in grounds(ROWS):
            if not ground.walker.closed:
                continue
            inside = sorted(square for square, room in ground.rooms.items() if room is not None)
            held = shut(ground.walker)
            self.assertEqual([held.endless, held.many], [False, len(inside)])
            self.assertTrue(all(square in held for square in inside))


class DriftTest(unittest.TestCase):
    def test_first_free_then_shut_in_then_trodden(self):
        for walker in [Walker(row, (4, -4), "S") for row in ROWS + tuple(random_rows(4, 40))]:
            if walker.closed:
                continue
            held, found, (dx, dy) = shut(walker), walker.squares(), walker.drift
            x, y = walker.at(walker.period)
            for square in [(p, q) for p in range(x - 9, x + 10, 2) for q in range(y - 9, y + 10, 2)]:
                states = []
                for many in [*range(-12, 13), FAR // 100, FAR // 90]:
                    spot = square[0] + many * dx, square[1] + many * dy
                    states.append(2 if spot in found else int(spot in held))
                    self.assertFalse(spot in found and spot in held)
                    if many in (-12, 0, 5, FAR // 100):
                        self.assertEqual(chamber(walker, spot) is not None, states[-1] == 1)
                self.assertEqual(states, sorted(states), (walker, square))

    def test_nothing_in_common_with_what_is_trodden(self):
        for walker in [Walker(row, (4, -4), "S") for row in ROWS + tuple(random_rows(6, 40))]:
            self.assertEqual(shut(walker) & walker.squares(), Squares())
            self.assertEqual((shut(walker) | walker.squares()) - walker.squares(), shut(walker))

    def test_endless_if_chambers_come_again(self):
        for row, endless, many in (("4 L 2 L 2 L 2 L", True, None), ("9 L 8 L 7 L 9 L", False, 18), ("1", False, 0),
                                   ("7 R 6 R 9 R 8 R", True, None), ("5 R 5 R 4 R 3 R", False, 3),
                                   ("3 R 3 L", False, 0),
                                   ("2 R", False, 1), ("9 9 9 9 9 9 9 R", False, 62 * 62), ("1 B", False, 0)):
            for way in "NESW":
                held = shut(Walker(row, (-3, 8), way))
                self.assertEqual([held.endless, held.many, bool(held)], [endless, many, many != 0], row)

    def test_chambers_hang_together(self):
        for walker in [Walker(row, (4, -4), "S") for row in ROWS + tuple(random_rows(7, 40))]:
            held, found = shut(walker), walker.squares()
            for about in (walker.at(3 * walker.period), walker.at(FAR // 100)):
                for square in held.near(about, 6)[::3]:
                    inside = chamber(walker, square)
                    room = set(inside)
                    self.assertIn(square, room)
                    self.assertEqual(inside, tuple(sorted(room)))
                    self.assertTrue(all(spot in held for spot in inside))
                    edge = {spot for old in inside for spot in beside(old)} - room
                    self.assertTrue(all(spot in found for spot in edge))
                    self.assertEqual(chamber(walker, inside[-1]), inside)
                    self.assertEqual(self.reached(square, room), room)

    def reached(self, square, room):
        known, waiting = {square}, [square]
        while waiting:
            for spot in beside(waiting.pop()):
                if spot in room and spot not in known:
                    known.add(spot)
                    waiting.append(spot)
        return known

    def test_far_along_the_drift_and_behind(self):
        comb = Walker("4 L 2 L 2 L 2 L", way="E")
        self.assertEqual(shut(comb), Squares((3, 1, 2, 0)))
        self.assertEqual(chamber(comb, (FAR - 1, 1)), ((FAR - 1, 1),))
        self.assertEqual(chamber(comb, (-FAR + 1, 1)), None)
        self.assertEqual(way_out(comb, (-FAR + 1, 1)), (((-FAR + 1, 1),), "N"))
        self.assertEqual(way_out(comb, (FAR - 1, 1)), None)
        self.assertEqual(way_out(comb, (FAR, 3)), (((FAR, 3),), "N"))
        self.assertEqual(way_out(comb, (FAR, -1)), (((FAR, -1),), "E"))
        wide = Walker("9 R 5 R 3 R 5 R", (0, -FAR))
        first = wide.moved(0, 0)
        x, y = first.at(10 * first.period)
        inside = [square for square in shut(wide).near((x, y), 8)]
        self.assertTrue(inside)
        for square in inside:
            room = chamber(wide, square)
            many = FAR // 10
            later = square[0] + many * wide.drift[0], square[1] + many * wide.drift[1]
            self.assertEqual(chamber(wide, later), tuple((p, q + many * wide.drift[1]) for p, q in room))


class ToldTest(unittest.TestCase):
    def test_chambers(self):
        ring = Walker("3 R")
        inside = ((1, 1), (1, 2), (2, 1), (2, 2))
        for square in inside:
            self.assertEqual(chamber(ring, square), inside)
            self.assertEqual(chamber(square=square, walker=ring), inside)
            self.assertIsNone(way_out(ring, square))
        for square in ((0, 0), (3, 3), (0, 2), (4, 4), (-1, 1), (FAR, FAR), (1, -1)):
            self.assertIsNone(chamber(ring, square))
        self.assertEqual(chamber(Walker("2 R", (FAR - 1, FAR - 1)), (FAR, FAR)), ((FAR, FAR),))
        self.assertEqual(chamber(Walker("3 R", (FAR - 1, FAR - 1)), (FAR, FAR)),
                         ((FAR, FAR), (FAR, FAR + 1), (FAR + 1, FAR), (FAR + 1, FAR + 1)))

    def test_ways_out(self):
        ring = Walker("2 R")
        for square, way in (((-1, 1), "N"), ((1, 3), "N"), ((3, 1), "N"), ((1, -1), "E"),
                            ((0, -1), "E"), ((0, 3), "N")):
            self.assertEqual(way_out(ring, square), ((square,), way))
            self.assertEqual(way_out(square=square, walker=ring), ((square,), way))
        for square in ((0, 0), (1, 1), (2, 2)):
            self.assertIsNone(way_out(ring, square))

    def test_told_once_more(self):
        walker = Walker("9 R 5 R 3 R 5 R")
        held = shut(walker)
        squares = held.near((2, 20), 12)
        first = [chamber(walker, square) for square in squares], [way_out(walker, (x, 20)) for x in range(-9, 9)]
        shut(walker) | walker.squares()
        walker.turned(), walker.mirrored(), walker.moved(1, 1)
        again = Walker("9 R 5 R 3 R 5 R")
        for same in (walker, again):
            self.assertEqual(([chamber(same, square) for square in squares],
                              [way_out(same, (x, 20)) for x in range(-9, 9)]), first)
            self.assertEqual(shut(same), held)


class RefusedTest(RefusingTest):
    def test_walkers(self):
        for value in NO_WALKERS:
            self.refused(NotAWalker, value, shut, value)
            self.refused(NotAWalker, value, shut, walker=value)
            for call in (chamber, way_out):
                self.refused(NotAWalker, value, call, value, (0, 0))
                self.refused(NotAWalker, value, call, value, None)
                self.refused(NotAWalker, value, call, square=[0, 0], walker=value)

    def test_squares(self):
        for walker in (Walker("2 R"), Walker("4 L 2 L 2 L 2 L")):
            for call in (chamber, way_out):
                for value in NO_SQUARES:
                    self.refused(InvalidSquare, value, call, walker, value)
                    self.refused(InvalidSquare, value, call, square=value, walker=walker)

    def test_defined_where_they_are_listed(self):
        for call in (chamber, shut, way_out):
            self.assertEqual(call.__module__, "evertreads.shut")


if __name__ == "__main__":
    unittest.main()
