"""The bounds of what may be passed: all up to them is answered, and the next beyond each one is refused."""

import unittest

from evertreads.certificates import certify_meeting, certify_pair, certify_square
from evertreads.checker import accepts
from evertreads.console import Console
from evertreads.errors import (InvalidClaim, InvalidCount, InvalidIndex, InvalidMarks, InvalidMove, InvalidName,
                               InvalidParts, InvalidPeriod, InvalidRow, InvalidSquare, InvalidText, InvalidTime)
from evertreads.meeting import common, meeting, same_squares, same_walk
from evertreads.shut import chamber, shut, way_out
from evertreads.squares import Squares
from evertreads.times import Times
from evertreads.walkers import Walker
from evertreads.yards import Yard
from tests.plain_walk import ROWS
from tests.wrong import FAR, RefusingTest

CORNERS = [(x, y) for x in (FAR, -FAR) for y in (FAR, -FAR)]
BEYOND = ((FAR + 1, 0), (0, FAR + 1), (-FAR - 1, 0), (0, -FAR - 1), (FAR + 1, FAR + 1))


class WalkersTest(RefusingTest):
    def test_rows(self):
        for row in ("1", "9", "9 9 9 9 9 9 9 9", "R R R R R R R 1", "1 R L B 1 R L B", "B 9", "9 R"):
            self.assertEqual(Walker(row).row, row)
            self.assertEqual(Console().say(f"a = {row} from 0,0 to S"), f"{row} from 0,0 to S")
            self.assertIs(accepts(("stands", (row, (0, 0), "S"), 0, (0, 0)), ()), True)
        for row in ("1 1 1 1 1 1 1 1 1", "R R R R R R R R 1", "0", "10", "", "R", "R R R R R R R R",
                    "9 9 9 9 9 9 9 9 9"):
            self.refused(InvalidRow, row, Walker, row)
            line = f"a = {row} from 0,0 to S"
            self.refused(InvalidText, line, Console().say, line)
            self.assertIs(accepts(("stands", (row, (0, 0), "S"), 0, (0, 0)), ()), False)

    def test_starts(self):
        for start in CORNERS:
            self.assertEqual(Walker("2 R", start).at(0), start)
            self.assertEqual(Walker("2 R", start=start).at(time=FAR), start)
        for start in BEYOND:
            self.refused(InvalidSquare, start, Walker, "2 R", start)
            self.refused(InvalidSquare, start, Walker, way="N", start=start, row="1")

    def test_times(self):
        walker = Walker("2 R")
        self.assertEqual([walker.at(0), walker.at(FAR), walker.goes(0), walker.goes(FAR)], [(0, 0), (0, 0), "N", "N"])
        self.assertEqual([Times(0, FAR).many, Times(FAR).first], [2, FAR])
        for time in (-1, FAR + 1):
            self.refused(InvalidTime, time, walker.at, time)
            self.refused(InvalidTime, time, walker.goes, time)
            self.refused_at(InvalidParts, 0, Times, time)
            self.assertIs(accepts(("stands", ("2 R", (0, 0), "N"), time, walker.at(time % 8)), ()), False)

    def test_counts(self):
        walker, times = Walker("4 L 2 L 2 L 2 L"), Times(period=2, marks=(1,))
        self.assertEqual([len(list(times.ascending(count))) for count in (0, 1, 100)], [0, 1, 100])
        self.assertEqual([walker.trodden(1).endless, bool(walker.trodden(100)), walker.trodden(3).endless],
                         [True, False, True])
        for count in (-1, 101):
            self.refused(InvalidCount, count, lambda: next(times.ascending(count)))
        for count in (-1, 0, 101):
            self.refused(InvalidCount, count, walker.trodden, count)

    def test_moves(self):
        walker = Walker("2 R")
        for x, y in CORNERS:
            self.assertEqual(walker.moved(x, y).start, (x, y))
            self.assertEqual(walker.moved(x, y).moved(x, y).start, (2 * x, 2 * y))
        for number in (FAR + 1, -FAR - 1):
            self.refused(InvalidMove, number, walker.moved, number, 0)
            self.refused(InvalidMove, number, walker.moved, 0, number)
            self.refused(InvalidMove, number, walker.moved, number, None)


class SetsTest(RefusingTest):
    def test_periods(self):
        for period in (1, 999, 1000):
            times = Times(period=period, marks=(period - 1,))
            self.assertEqual([times.period, times.first], [period, period - 1])
            marks = (period,)
            self.refused(InvalidMarks, marks, Times, period=period, marks=marks)
        for period in (0, 1001, -1):
            self.refused(InvalidPeriod, period, Times, period=period)

    def test_parts(self):
        twenty = [(k, FAR, 1000, -1000) for k in range(10)] + [(k, -FAR) for k in range(10)]
        squares = Squares(*twenty)
        self.assertIs(all(part[:2] in squares for part in twenty), True)
        self.refused_at(InvalidParts, 20, Squares, *twenty, (0, 0))
        for dx, dy in ((1000, 1000), (-1000, 0), (0, -1000)):
            self.assertIs((FAR + dx, FAR + dy) in Squares((FAR, FAR, dx, dy)), True)
        for part in ((0, 0, 1001, 0), (0, 0, 0, -1001), (0, 0, 0, 0), (FAR + 1, 0, 1, 0), (FAR + 1, 0), (0, -FAR - 1)):
            self.refused_at(InvalidParts, 1, Squares, (0, 0), part)

    def test_reaches(self):
        line = Squares((-FAR, 0, 1, 0))
        for x in (FAR, 0, -FAR):
            self.assertEqual(line.near((x, 0), 0), ((x, 0),))
            self.assertEqual(len(line.near((x, 50), 50)), 51 if x == -FAR else 101)
            self.assertEqual(line.near((x, 51), 50), ())
        for reach in (-1, 51):
            self.refused(InvalidCount, reach, line.near, (0, 0), reach)
        for square in BEYOND:
            self.refused(InvalidSquare, square, line.near, square, 50)


class SquaresTest(RefusingTest):
    def test_squares(self):
        walker = Walker("2 R")
        yard = Yard()
        yard["a"] = walker
        for square in CORNERS:
            self.assertEqual(walker.times(square), Times())
            self.assertIsNone(chamber(walker, square))
            self.assertEqual(way_out(walker, square), ((square,), "N"))
            self.assertEqual(certify_square(walker, square)[0], ("open", ("2 R", (0, 0), "N"), square))
            self.assertIsNone(yard.claim(("free", "a", square)))
        for square in BEYOND:
            for call in (chamber, way_out, certify_square):
                self.refused(InvalidSquare, square, call, walker, square)
            self.refused(InvalidSquare, square, walker.times, square)
            for word in ("free", "treads", "shut"):
                claim = word, "a", square
                self.refused(InvalidClaim, claim, yard.claim, claim)
                line = f"a {word} {square[0]},{square[1]}"
                self.refused(InvalidText, line, Console().say, line)
                self.assertIs(accepts((word, ("2 R", (0, 0), "N"), square), ()), False)

    def test_names_and_indices(self):
        yard = Yard()
        for name in ("a", "z", "aaaaaaaa", "zzzzzzzz"):
            yard[name] = Walker("1")
            yard.claim(("treads", name, (0, FAR)))
        self.assertEqual(len(yard), 4)
        for name in ("", "aaaaaaaaa", "A", "`", "{"):
            self.refused(InvalidName, name, yard.__setitem__, name, Walker("1"))
        for index in (-1, 4):
            self.refused(InvalidIndex, index, yard.lift, index)
        self.assertEqual([yard.lift(3), yard.lift(0), len(yard.claims)], [None, None, 2])


class EndsTest(unittest.TestCase):
    def test_what_is_told_of_the_moved_walker(self):
        """As many squares away it is told alike, if all these squares are in the grid."""
        for at, row in enumerate(ROWS):
            near, way = Walker(row, (0, 0), "NESW"[at % 4]), "NESW"[at % 4]
            for x, y in CORNERS:
                for far in (near.moved(x, y), Walker(row, (x, y), way)):
                    self.assertEqual(far.trodden(1).many, near.trodden(1).many)
                    self.assertEqual(shut(far).many, shut(near).many)
                    self.alike(near, far, x, y)
                self.assertIs(same_walk(near.moved(x, y), Walker(row, (x, y), way)), True)
                self.assertIs(same_squares(near.moved(x, y), Walker(row, (x, y), way)), True)
                self.assertEqual(meeting(near.moved(x, y), far), Times(period=1, marks=(0,)))
                self.assertEqual(common(near.moved(x, y), far), far.squares())

    def alike(self, near, far, x, y):
        yard = Yard()
        yard["a"] = far
        for square in [(p, q) for p in range(-9, 10, 3) for q in range(-9, 10, 2)]:
            moved = square[0] + x, square[1] + y
            if max(map(abs, moved)) > FAR:
                continue
            self.assertEqual(far.times(moved), near.times(square))
            (near_claim, near_paper), (claim, paper) = certify_square(near, square), certify_square(far, moved)
            word = near_claim[0]
            self.assertEqual(claim, (word, (far.row, far.start, far.way), moved))
            self.assertEqual([accepts(near_claim, near_paper), accepts(claim, paper)], [True, True])
            for other, so in (("treads", word == "treads"), ("free", word != "treads"), ("shut", word == "shut")):
                self.assertIs(self.stands(yard, (other, "a", moved)), so)

    def stands(self, yard, claim):
        try:
            yard.claim(claim)
        except ArithmeticError:
            return False
        yard.undo()
        return True

    def test_pairs_at_the_ends(self):
        rows = ROWS[::3]
        for row, other_row in zip(rows, rows[1:] + rows[:1]):
            for start in ((0, 0), (3, 1)):
                one, other = Walker(row), Walker(other_row, start, "W")
                for x, y in CORNERS:
                    a, b = one.moved(x, y), other.moved(x, y)
                    self.assertEqual(meeting(a, b), meeting(one, other))
                    if max(map(abs, b.start)) <= FAR:
                        for call in (certify_meeting, certify_pair):
                            near, far = call(one, other), call(a, b)
                            self.assertEqual(near and near[0][0], far and far[0][0])
                            self.assertEqual(near and near[0][3:], far and far[0][3:])
                            self.assertIs(far is None or accepts(*far), True)


class CallsTest(unittest.TestCase):
    """Arguments by position and by name, in any order, and calls made once more."""

    def test_by_name_in_any_order(self):
        ring, line = Walker("2 R", (0, 1), "E"), Walker(way="N", row="1", start=(0, -3))
        self.assertEqual([line.row, line.start, line.way], ["1", (0, -3), "N"])
        for call in (meeting, common, same_walk, same_squares, certify_meeting, certify_pair):
            first = call(ring, line)
            for again in (call(walker=ring, other=line), call(other=line, walker=ring), call(ring, other=line),
                          call(ring, line), call(Walker("2 R", (0, 1), "E"), Walker("1", (0, -3)))):
                self.assertEqual(again, first)
        for call in (chamber, way_out, certify_square):
            for square in ((1, 0), (0, 1), (5, 5)):
                first = call(ring, square)
                for again in (call(walker=ring, square=square), call(square=square, walker=ring), call(ring, square),
                              call(ring, square=square), call(Walker("2 R", (0, 1), "E"), tuple(list(square)))):
                    self.assertEqual(again, first)
        self.assertEqual(shut(walker=ring), shut(ring))

    def test_told_stays(self):
        """What was told before is not changed by anything done later, nor by what is done with the parts passed."""
        yard, walker = Yard(), Walker("2 R")
        yard["a"] = walker
        yard.claim(("shut", "a", (1, 1)))
        kept = yard.names, yard.claims, yard["a"], certify_square(walker, (1, 1)), walker.squares(), shut(walker)
        yard.lift(0)
        yard["a"] = Walker("1")
        yard["b"] = walker.turned()
        yard.undo()
        yard.drop("a")
        self.assertEqual(kept[:2], (("a",), (("shut", "a", (1, 1)),)))
        self.assertIs(kept[2], walker)
        self.assertEqual(kept[3], (("shut", ("2 R", (0, 0), "N"), (1, 1)), ((1, 1),)))
        self.assertEqual([kept[4].many, kept[5].near((0, 0), 5)], [8, ((1, 1),)])

    def test_objects_without_equality_of_their_own(self):
        for make in (lambda: Walker("2 R"), Yard, Console):
            one, other = make(), make()
            self.assertEqual([one == one, one != one, one == other, one != other, one == 0, one != "2 R"],
                             [True, False, False, True, False, True])
        self.assertEqual([bool(Walker("2 R")), bool(Console()), bool(Yard())], [True, True, False])


if __name__ == "__main__":
    unittest.main()
