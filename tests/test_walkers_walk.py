"""Where walkers stand and which squares they tread, compared with walks made step by step."""

import random
import unittest

from evertreads.squares import Squares
from evertreads.times import Times
from evertreads.walkers import Walker
from tests.plain_walk import LINES, MOVES, RINGS, ROWS, box_about, walk
from tests.wrong import FAR


def walkers():
    """Each row with some start and some way: (walker, row, start, way)."""
    for at, row in enumerate(ROWS):
        start, way = (3 * at - 40, 7 - at), "NESW"[at % 4]
        yield Walker(row, start, way), row, start, way


def least_period(ways):
    for period in range(1, len(ways) + 1):
        if len(ways) % period == 0 and ways == ways[:period] * (len(ways) // period):
            return period
    raise AssertionError("unreachable")


class StepsTest(unittest.TestCase):
    def test_follows_the_row(self):
        for walker, row, start, way in walkers():
            squares, ways = walk(row, start, way, 1200)
            for time in [*range(40), *range(40, 1200, 13)]:
                self.assertEqual(walker.at(time), squares[time], (row, time))
                self.assertEqual(walker.at(time=time), squares[time])
                self.assertEqual(walker.goes(time), ways[time], (row, time))
                self.assertEqual(walker.goes(time=time), ways[time])

    def test_period_and_drift(self):
        for walker, row, start, way in walkers():
            run = sum(int(order) for order in row.split(" ") if order.isdigit())
            squares, ways = walk(row, start, way, 4 * run)
            period = least_period(ways)
            self.assertEqual(walker.period, period, row)
            x, y = squares[period]
            self.assertEqual(walker.drift, (x - start[0], y - start[1]))
            self.assertIs(walker.closed, squares[period] == start)
            self.assertEqual([type(walker.period), type(walker.drift)], [int, tuple])

    def test_told(self):
        self.assertEqual([(walker.period, walker.drift, walker.closed) for walker in (
            Walker("2 R"), Walker("1"), Walker("9 3", way="W"), Walker("1 B"), Walker("1 R 1 L"), Walker("3 3 R 6 R"),
            Walker("9 9 9 9 9 9 9 R"), Walker("5 B 2 B"), Walker("2 R 2 R", way="E"), Walker("1 1 1 1 1 1 1 L"))],
            [(8, (0, 0), True), (1, (0, 1), False), (1, (-1, 0), False), (2, (0, 0), True), (2, (1, 1), False),
             (24, (0, 0), True), (252, (0, 0), True), (7, (0, 3), False), (8, (0, 0), True), (28, (0, 0), True)])

    def test_a_turn_in_one_run_makes_closed(self):
        for walker, row, _, _ in walkers():
            turns = sum({"R": 1, "B": 2, "L": 3}.get(order, 0) for order in row.split(" "))
            if turns % 4 > 0:
                self.assertIs(walker.closed, True, row)

    def test_far_times(self):
        draw = random.Random(1)
        for walker, row, start, way in walkers():
            squares, ways = walk(row, start, way, 300)
            for time in [FAR, FAR - 1, 10 ** 29 + 3] + [draw.randrange(FAR) for _ in range(5)]:
                rounds, rest = divmod(time, walker.period)
                x, y = squares[rest]
                dx, dy = walker.drift
                self.assertEqual(walker.at(time), (x + rounds * dx, y + rounds * dy))
                self.assertEqual(walker.goes(time), ways[rest])

    def test_each_step_leads_to_the_neighbour(self):
        draw = random.Random(2)
        for walker, _, _, _ in walkers():
            for time in [0, FAR - 1] + [draw.randrange(FAR) for _ in range(10)]:
                (x, y), (dx, dy) = walker.at(time), MOVES[walker.goes(time)]
                self.assertEqual(walker.at(time + 1), (x + dx, y + dy))
                later = min(FAR, time + draw.randrange(100))
                (p, q), steps = walker.at(later), later - time
                far = abs(p - x) + abs(q - y)
                self.assertLessEqual(far, steps)
                self.assertEqual((steps - far) % 2, 0)

    def test_so_many_drifts_later(self):
        draw = random.Random(3)
        for walker, _, _, _ in walkers():
            for _ in range(6):
                time, many = draw.randrange(10 ** 27), draw.randrange(10 ** 27)
                x, y = walker.at(time)
                dx, dy = walker.drift
                self.assertEqual(walker.at(time + many * walker.period), (x + many * dx, y + many * dy))
                self.assertEqual(walker.goes(time + many * walker.period), walker.goes(time))

    def test_begun_after_some_runs(self):
        for walker, row, start, way in walkers():
            run = sum(int(order) for order in row.split(" ") if order.isdigit())
            for runs in (1, 2, 3, 5):
                turns = runs * sum({"R": 1, "B": 2, "L": 3}.get(order, 0) for order in row.split(" "))
                later = Walker(row, walker.at(runs * run), "NESW"[("NESW".index(way) + turns) % 4])
                for time in (0, 1, 5, 88, FAR - runs * run):
                    self.assertEqual(later.at(time), walker.at(time + runs * run))


class TimesTest(unittest.TestCase):
    def test_near(self):
        for walker, row, start, way in walkers():
            squares, _ = walk(row, start, way, 1500)
            low, high, bottom, top = box_about(squares[:200], 1)
            for x in range(low, high + 1, 3):
                for y in range(bottom, top + 1, 2):
                    self.compare(walker, squares, (x, y))
            for square in squares[:100:7]:
                self.compare(walker, squares, square)

    def compare(self, walker, squares, square):
        found = [time for time, spot in enumerate(squares) if spot == square]
        times = walker.times(square)
        self.assertIs(type(times), Times)
        if walker.closed:
            self.assertEqual([time for time in range(len(squares)) if time in times], found)
            self.assertEqual([times.endless, times.numbers], [len(found) > 0, ()])
        elif found == [] or max(found) < 500:
            self.assertEqual(times, Times(*found), (walker, square))
        for time in found[:5]:
            self.assertEqual(walker.at(time), square)

    def test_each_time_on_just_one_square(self):
        for walker, row, start, way in walkers():
            squares, _ = walk(row, start, way, 60)
            for time in (0, 17, 59):
                self.assertEqual([square for square in sorted(set(squares)) if time in walker.times(square)],
                                 [squares[time]])

    def test_far(self):
        comb = Walker("4 L 2 L 2 L 2 L", way="E")
        square = comb.at(FAR // 10)
        self.assertIn(FAR // 10, comb.times(square))
        for time in comb.times(square).ascending(100):
            self.assertEqual(comb.at(time), square)
        # one drift of 2 takes ten steps, so that the far end of the grid is trodden at times beyond the greatest
        self.assertEqual(comb.period, 10)
        far = comb.times((FAR, 0))
        self.assertEqual(far.numbers, (5 * FAR - 16, 5 * FAR - 8, 5 * FAR))
        self.assertEqual(Walker("1", (0, -FAR)).times((0, FAR)), Walker("1").moved(0, -FAR).times(square=(0, FAR)))
        self.assertEqual(Walker("1", (0, -FAR)).times((0, FAR)).numbers, (2 * FAR,))
        self.assertEqual(Walker("1").times((0, -1)), Times())
        self.assertEqual(Walker("1").times((1, 1)), Times())
        self.assertEqual(Walker("2 R", (FAR, FAR)).times((FAR, FAR)), Times(period=8, marks=(0,)))
        self.assertEqual(Walker("1 B").times((0, 1)), Times(period=2, marks=(1,)))
        self.assertEqual(Walker("1 B").times((0, 0)), Times(period=2, marks=(0,)))
        self.assertEqual(Walker("2 B").times((0, 1)), Times(period=2, marks=(1,)))
        self.assertEqual(Walker("2 R").times((1, 1)), Times())


class SquaresTest(unittest.TestCase):
    def test_trodden_near(self):
        for walker, row, start, way in walkers():
            steps = 3000
            squares, _ = walk(row, start, way, steps)
            found, walked = walker.squares(), set(squares)
            counts = {}
            for square in squares:
                counts[square] = counts.get(square, 0) + 1
            low, high, bottom, top = box_about(squares[:150], 2)
            box = [(x, y) for x in range(low, high + 1) for y in range(bottom, top + 1)]
            by_count = [walker.trodden(count) for count in range(1, 31)]
            for square in box[::max(1, len(box) // 150)] + squares[:150:5]:
                self.assertIs(square in found, square in walked, (row, square))
                told = [count for count, trodden in enumerate(by_count, 1) if square in trodden]
                wanted = [] if walker.closed or square not in walked else [counts[square]]
                self.assertEqual(told, wanted, (row, square))
            self.assertEqual([type(found), found.endless], [Squares, not walker.closed])
            if walker.closed:
                self.assertEqual(found.many, len(walked))

    def test_far_along_the_drift(self):
        draw = random.Random(4)
        for walker, _, _, _ in walkers():
            found = walker.squares()
            for _ in range(5):
                time = draw.randrange(10 ** 28)
                square = walker.at(time)
                self.assertIn(square, found)
                if not walker.closed:
                    many = walker.times(square).many
                    self.assertIs(square in walker.trodden(many), True)
                    self.assertIs(square in walker.trodden(many + 1), False)
                dx, dy = walker.drift
                behind = square[0] - 10 ** 29 * dx, square[1] - 10 ** 29 * dy
                self.assertIs(behind in found, walker.closed)

    def test_counts_have_nothing_in_common_and_make_all(self):
        for walker, row, _, _ in walkers():
            counts = [walker.trodden(count) for count in range(1, 101)]
            together = Squares()
            for trodden in counts:
                if not trodden:
                    continue
                self.assertEqual((together & trodden).many, 0)
                together = together | trodden
            self.assertEqual(together, Squares() if walker.closed else walker.squares(), row)
            most = max([count for count, trodden in enumerate(counts, 1) if trodden], default=0)
            self.assertLessEqual(most, walker.period)
            self.assertTrue(all(not trodden for trodden in counts[most:]))
            self.assertEqual(walker.trodden(count=1), counts[0])

    def test_told(self):
        for row in RINGS[:8]:
            self.assertEqual([bool(Walker(row).trodden(count)) for count in (1, 2, 50, 100)], [False] * 4)
        self.assertEqual(Walker("1", (4, 4), "W").squares(), Squares((4, 4, -1, 0)))
        self.assertEqual(Walker("1", (4, 4), "W").trodden(1), Squares((4, 4, -1, 0)))
        self.assertEqual(Walker("2 R").squares(),
                         Squares((0, 0), (0, 1), (0, 2), (1, 2), (2, 2), (2, 1), (2, 0), (1, 0)))
        back = Walker("5 B 2 B")
        self.assertEqual([back.trodden(count) for count in (1, 2, 3, 4)],
                         [Squares((0, 0), (0, 1), (0, 2)), Squares((0, 3, 0, 3), (0, 5, 0, 3)), Squares((0, 4, 0, 3)),
                          Squares()])
        self.assertEqual(Walker("5 B 2 B").squares(), Squares((0, 0, 0, 1)))
        self.assertEqual(Walker(LINES[2]).trodden(2).many, 0)

    def test_longest_rows(self):
        for row in ("9 9 9 9 9 9 9 9", "9 R 9 L 9 R 9 L", "9 R 9 R 8 R 9 R", "9 B 9 B 9 B 9 B", "9 9 9 9 9 9 9 L",
                    "9 9 R 9 9 L 9 9"):
            walker = Walker(row, (FAR, -FAR), "S")
            squares, ways = walk(row, (FAR, -FAR), "S", 600)
            found = walker.squares()
            for time in range(0, 600, 7):
                self.assertEqual([walker.at(time), walker.goes(time)], [squares[time], ways[time]])
                self.assertIn(squares[time], found)
            self.assertIs(found.endless, not walker.closed)


if __name__ == "__main__":
    unittest.main()
