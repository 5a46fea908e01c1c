"""How walkers are made, and what they refuse."""

import enum
import unittest

from evertreads.errors import InvalidCount, InvalidMove, InvalidRow, InvalidSquare, InvalidTime, InvalidWay
from evertreads.walkers import Walker
from tests.wrong import FAR, NO_INTEGERS, NO_SQUARES, RefusingTest, Same

NO_ROWS = (True, None, 0, 2, b"2 R", [], ["2", "R"], ("2", "R"), {}, object(), Same(), str, "", " ", "R", "L", "B",
           "R L", "R B L", "0", "0 R", "2  R", " 2 R", "2 R ", "2 R\n", "2\tR", "2R", "22 R", "10 R", "-1", "+1", "2 r",
           "2 X", "2 N", "2,R", "2 R 2 R 2 R 2 R 2", "1 1 1 1 1 1 1 1 1", "R R R R R R R R 1", "\u0662 R", "\u00b2",
           "2 R\u0301", "2\u00a0R")
NO_WAYS = (True, None, 0, 1, b"N", [], ["N"], ("N",), {}, object(), Same(), str, "", " ", "n", "e", "NE", "NESW",
           "North", "N ", "X", "R", "N\u0301")


class Whole(enum.IntEnum):
    TWO = 2
    FIVE = 5


class MadeTest(unittest.TestCase):
    def test_as_passed(self):
        start = (3, -FAR)
        for walker in (Walker("2 R", start, "W"), Walker(row="2 R", start=start, way="W"),
                       Walker("2 R", way="W", start=start)):
            self.assertEqual([walker.row, walker.way], ["2 R", "W"])
            self.assertIs(walker.start, start)

    def test_left_out(self):
        walker = Walker("2 R")
        self.assertEqual([walker.row, walker.start, walker.way], ["2 R", (0, 0), "N"])
        walker = Walker("2 R", way="S")
        self.assertEqual([walker.row, walker.start, walker.way], ["2 R", (0, 0), "S"])
        walker = Walker("2 R", (1, 2))
        self.assertEqual([walker.row, walker.start, walker.way], ["2 R", (1, 2), "N"])

    def test_texts(self):
        self.assertEqual([str(Walker("2 R")), repr(Walker("2 R"))], ["2 R from 0,0 to N", "Walker(2 R from 0,0 to N)"])
        walker = Walker("9 L B 1 R 3", (-5, FAR), "W")
        self.assertEqual([str(walker), repr(walker)],
                         [f"9 L B 1 R 3 from -5,{FAR} to W", f"Walker(9 L B 1 R 3 from -5,{FAR} to W)"])
        self.assertEqual(f"{Walker('1', (Whole.TWO, Whole.FIVE))}", "1 from 2,5 to N")

    def test_equal_to_themselves_alone(self):
        one, other = Walker("2 R"), Walker("2 R")
        self.assertEqual([one == one, one != one, one == other, one != other], [True, False, False, True])
        for value in (None, 0, "2 R", str(one), ("2 R", (0, 0), "N"), object(), Walker):
            self.assertIs(one == value, False)
            self.assertIs(one != value, True)
        self.assertIs(bool(one), True)

    def test_ints_of_other_classes(self):
        walker = Walker("3 R", (Whole.TWO, Whole.FIVE))
        self.assertEqual([walker.at(Whole.TWO), walker.times((Whole.TWO, 7)).first, walker.trodden(Whole.TWO).many],
                         [(2, 7), 2, 0])

    def test_rows_that_are_right(self):
        for row in ("1", "9", "R 1", "1 R", "B 1", "1 B", "1 2 3 4 5 6 7 8", "R L B R L B R 9", "9 9 9 9 9 9 9 9",
                    "9 R 9 R 9 R 9 R", "9 R 9 L 9 B 9 B"):
            self.assertEqual(Walker(row).row, row)

    def test_at_the_limits(self):
        for x in (-FAR, 0, FAR):
            for y in (-FAR, 0, FAR):
                self.assertEqual(Walker("1", (x, y)).at(0), (x, y))
                self.assertEqual(Walker("1", (x, y), "E").at(FAR), (x + FAR, y))

    def test_nothing_can_be_set(self):
        for name in ("row", "start", "way", "period", "drift", "closed"):
            with self.assertRaises(AttributeError):
                setattr(Walker("1"), name, 1)

    def test_all_stands_in_the_class(self):
        for name in ("row", "start", "way", "period", "drift", "closed"):
            self.assertIsInstance(vars(Walker)[name], property)
        for name in ("__init__", "__str__", "__repr__", "squares", "at", "goes", "times", "trodden", "moved", "turned",
                     "mirrored"):
            self.assertIn(name, vars(Walker))
        self.assertEqual(Walker.__module__, "evertreads.walkers")


class RefusedTest(RefusingTest):
    def test_rows(self):
        for value in NO_ROWS:
            self.refused(InvalidRow, value, Walker, value)
            self.refused(InvalidRow, value, Walker, row=value)

    def test_starts(self):
        for value in NO_SQUARES:
            self.refused(InvalidSquare, value, Walker, "2 R", value)
            self.refused(InvalidSquare, value, Walker, "2 R", start=value)

    def test_ways(self):
        for value in NO_WAYS:
            self.refused(InvalidWay, value, Walker, "2 R", (0, 0), value)
            self.refused(InvalidWay, value, Walker, "2 R", way=value)

    def test_order(self):
        row, start, way = "R", [0, 0], "n"
        self.refused(InvalidRow, row, Walker, row, start, way)
        self.refused(InvalidRow, row, Walker, way=way, start=start, row=row)
        self.refused(InvalidSquare, start, Walker, "1", start, way)
        self.refused(InvalidSquare, start, Walker, way=way, start=start, row="1")
        self.refused(InvalidRow, row, Walker, row, (0, 0), way)
        self.refused(InvalidWay, way, Walker, "1", (0, 0), way)

    def test_what_is_asked(self):
        for walker in (Walker("2 R"), Walker("4 L 2 L 2 L 2 L", (5, 5), "E"), Walker("1").moved(FAR, 0).moved(FAR, 0)):
            for value in NO_INTEGERS + (-1, FAR + 1, -FAR, 10 ** 79):
                self.refused(InvalidTime, value, walker.at, value)
                self.refused(InvalidTime, value, walker.at, time=value)
                self.refused(InvalidTime, value, walker.goes, value)
                self.refused(InvalidTime, value, walker.goes, time=value)
            for value in NO_SQUARES:
                self.refused(InvalidSquare, value, walker.times, value)
                self.refused(InvalidSquare, value, walker.times, square=value)
            for value in NO_INTEGERS + (0, -1, 101, FAR):
                self.refused(InvalidCount, value, walker.trodden, value)
                self.refused(InvalidCount, value, walker.trodden, count=value)
            for value in NO_INTEGERS + (FAR + 1, -FAR - 1, 10 ** 79):
                self.refused(InvalidMove, value, walker.moved, value, 0)
                self.refused(InvalidMove, value, walker.moved, 0, value)
                self.refused(InvalidMove, value, walker.moved, dx=value, dy=None)
                self.refused(InvalidMove, value, walker.moved, dy=value, dx=FAR)

    def test_first_wrong_move(self):
        dx, dy = [1], [2]
        self.refused(InvalidMove, dx, Walker("1").moved, dx, dy)
        self.refused(InvalidMove, dx, Walker("1").moved, dy=dy, dx=dx)

    def test_arguments_that_lack_or_are_too_many(self):
        walker = Walker("1")
        for call in (lambda: Walker(), lambda: Walker("1", (0, 0), "N", 1), lambda: Walker("1", turn="R"),
                     lambda: walker.at(), lambda: walker.times(), lambda: walker.moved(1), lambda: walker.turned(1),
                     lambda: walker.squares(1), lambda: walker.trodden()):
            with self.assertRaises(TypeError):
                call()


if __name__ == "__main__":
    unittest.main()
