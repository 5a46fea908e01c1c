"""How sets of squares are made and told."""

import enum
import random
import unittest

from evertreads.squares import Squares
from tests.plain_squares import held, members
from tests.wrong import FAR, NO_PAIRS, TOO_FAR

ROWS = (
    (), ((0, 0),), ((0, 0), (3, -2), (0, 0)), ((0, 0, 1, 0),), ((5, 5, -2, 0), (4, 5)), ((1, -3, 0, 4), (1, 1, 0, -4)),
    ((0, 0, 2, 4), (1, 2, 3, 6), (6, 12, -1, -2)), ((0, 0, 1, 0), (0, 0, 0, 1), (0, 0, -1, 0), (0, 0, 0, -1)),
    ((3, 3, 2, -2), (4, 2, -3, 3), (0, 0, 1, 1), (9, 9, -1, -1)), ((7, -7, 3, 1), (-8, 2, 5, -1), (0, 0, -3, -2)),
    ((-4, 0, 4, 0), (30, 0, -6, 0), (-3, 0, 6, 0), (2, 0), (9, 0)),
)


class Whole(enum.IntEnum):
    TWO = 2
    FIVE = 5


class MembersTest(unittest.TestCase):
    def test_near(self):
        for parts in ROWS:
            squares = Squares(*parts)
            found = members(parts, 60)
            for x in range(-60, 61):
                for y in range(-20, 21):
                    self.assertIs((x, y) in squares, (x, y) in found, (parts, x, y))

    def test_far_along_rays(self):
        draw = random.Random(1)
        for parts in ROWS:
            squares = Squares(*parts)
            for part in parts:
                x, y, dx, dy = (*part, 0, 0)[:4]
                for many in (0, 1, 7, FAR, FAR + 1, 10 ** 60, draw.randrange(10 ** 40)):
                    for aside in (-1, 0, 1):
                        for up in (-1, 0, 1):
                            square = x + many * dx + aside, y + many * dy + up
                            self.assertIs(square in squares, held(square, parts), (parts, square))
                    self.assertIs((x - dx - many * dx, y - dy - many * dy) in squares,
                                  held((x - dx - many * dx, y - dy - many * dy), parts))

    def test_at_the_limits(self):
        squares = Squares((FAR, -FAR), (-FAR, FAR, -1000, 1000), (FAR, FAR, 999, 1000))
        self.assertEqual([(FAR, -FAR) in squares, (-FAR, FAR) in squares, (-FAR - 1000, FAR + 1000) in squares,
                          (-FAR - 500, FAR + 500) in squares, (-FAR + 1000, FAR - 1000) in squares,
                          (FAR + 999 * FAR, FAR + 1000 * FAR) in squares, (FAR, FAR + 1) in squares],
                         [True, True, True, False, False, True, False])

    def test_values_of_other_kinds(self):
        squares = Squares((0, 0, 1, 0), (0, 0, 0, 1), (1, 1), (1, 0))
        for value in NO_PAIRS + ((0, 0, 1, 0), (1, 1, 0), ((0, 0),)):
            self.assertIs(value in squares, False, value)
        self.assertEqual([square in squares for square in TOO_FAR], [True, True, False, False, False])
        self.assertIs((True, 0) in Squares((1, 0)), False)
        self.assertIs((1, False) in Squares((1, 0)), False)

    def test_ints_of_other_classes(self):
        squares = Squares((Whole.TWO, 0, Whole.FIVE, 0), (0, Whole.TWO))
        self.assertEqual([(Whole.TWO, 0) in squares, (7, 0) in squares, (0, 2) in squares], [True] * 3)
        self.assertEqual(squares, Squares((2, 0, 5, 0), (0, 2)))
        for square in squares.near((0, 0), Whole.FIVE):
            self.assertEqual([type(number) for number in square], [int, int])


class ToldTest(unittest.TestCase):
    def test_endless_just_with_a_ray(self):
        for parts in ROWS:
            self.assertIs(Squares(*parts).endless, any(len(part) == 4 for part in parts))

    def test_many(self):
        self.assertEqual([Squares().many, Squares((0, 0)).many, Squares((0, 0), (0, 0), (0, 1)).many], [0, 1, 2])
        self.assertEqual(Squares(*((k % 7, 0) for k in range(20))).many, 7)
        self.assertEqual(Squares(*((k, -FAR) for k in range(20))).many, 20)
        for parts in ROWS:
            if any(len(part) == 4 for part in parts):
                self.assertIsNone(Squares(*parts).many)

    def test_truth(self):
        for parts in ROWS:
            self.assertIs(bool(Squares(*parts)), len(parts) > 0)

    def test_rays_with_nothing_else(self):
        ray = Squares((5, 5, -1000, 1000))
        self.assertEqual([ray.endless, ray.many, bool(ray)], [True, None, True])

    def test_nothing_can_be_set(self):
        for name in ("endless", "many"):
            with self.assertRaises(AttributeError):
                setattr(Squares((0, 0)), name, 1)

    def test_all_stands_in_the_class(self):
        for name in ("endless", "many"):
            self.assertIsInstance(vars(Squares)[name], property)
        for name in ("__init__", "__contains__", "__and__", "__or__", "__sub__", "__eq__", "__bool__", "near"):
            self.assertIn(name, vars(Squares))
        self.assertEqual(Squares.__module__, "evertreads.squares")

    def test_arguments(self):
        with self.assertRaises(TypeError):
            Squares(parts=((0, 0),))


class NearTest(unittest.TestCase):
    def test_all_reaches(self):
        draw = random.Random(2)
        for parts in ROWS:
            squares = Squares(*parts)
            found = members(parts, 150)
            for reach in (0, 1, 2, 7, 49, 50):
                for x, y in [(0, 0), (3, -2)] + [(draw.randint(-90, 90), draw.randint(-90, 90)) for _ in range(4)]:
                    wanted = tuple(sorted(square for square in found
                                          if abs(square[0] - x) <= reach and abs(square[1] - y) <= reach))
                    self.assertEqual(squares.near((x, y), reach), wanted, (parts, x, y, reach))

    def test_by_name(self):
        squares = Squares((0, 0), (2, 1), (3, 0))
        self.assertEqual(squares.near(square=(1, 0), reach=1), ((0, 0), (2, 1)))
        self.assertEqual(squares.near(reach=2, square=(1, 0)), ((0, 0), (2, 1), (3, 0)))
        self.assertEqual(squares.near((1, 0), 0), ())
        self.assertEqual(squares.near((2, 1), 0), ((2, 1),))

    def test_far_out(self):
        squares = Squares((0, 0, 3, 0), (FAR, FAR), (FAR, 0, 0, 7), (-FAR, -FAR, -1, -1))
        # 10 ** 30 leaves 1 by 3
        self.assertEqual(squares.near((FAR, 0), 3), ((FAR - 1, 0), (FAR, 0), (FAR + 2, 0)))
        self.assertEqual(squares.near((FAR, FAR), 0), ((FAR, FAR),))
        self.assertEqual(squares.near((-FAR, -FAR), 2), ((-FAR - 2, -FAR - 2), (-FAR - 1, -FAR - 1), (-FAR, -FAR)))

    def test_all_of_a_whole_field(self):
        rows = [Squares(*((0, y, 1, 0) for y in range(k, k + 20))) for k in (-60, -40, -20, 0, 20, 40)]
        squares = rows[0] | rows[1] | rows[2] | rows[3] | rows[4] | rows[5]
        self.assertEqual(squares.near((50, 0), 50),
                         tuple((x, y) for x in range(0, 101) for y in range(-50, 51)))


class EqualTest(unittest.TestCase):
    def test_other_values(self):
        for value in (None, 0, True, False, (), ((0, 0),), [(0, 0)], {(0, 0)}, "", object(), Squares):
            for squares in (Squares(), Squares((0, 0)), Squares((0, 0, 1, 0))):
                self.assertIs(squares == value, False)
                self.assertIs(squares != value, True)

    def test_all_rows(self):
        for at, one in enumerate(ROWS):
            for behind, other in enumerate(ROWS):
                self.assertIs(Squares(*one) == Squares(*other), at == behind)
                self.assertIs(Squares(*one) != Squares(*other), at != behind)


if __name__ == "__main__":
    unittest.main()
