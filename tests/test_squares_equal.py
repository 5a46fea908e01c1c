"""Sets of squares that are equal, in whatever way they were made."""

import random
import unittest

from evertreads.squares import Squares
from tests.wrong import FAR


def in_remainders(part, many):
    """The ray in as many rays with a longer move."""
    x, y, dx, dy = part
    return [(x + k * dx, y + k * dy, dx * many, dy * many) for k in range(many)]


def without_first(part, many):
    """The ray as its first squares and the rest."""
    x, y, dx, dy = part
    return [(x + k * dx, y + k * dy) for k in range(many)] + [(x + many * dx, y + many * dy, dx, dy)]


RAYS = ((0, 0, 1, 0), (3, -4, 0, -1), (FAR - 999, FAR - 999, -7, 2), (-FAR, 5, 50, -50), (1, 1, 45, 30))


class RaysTest(unittest.TestCase):
    def test_by_remainders(self):
        for ray in RAYS:
            for many in (2, 3, 7, 12, 20):
                parts = in_remainders(ray, many)
                self.assertEqual(Squares(*parts), Squares(ray))
                self.assertEqual(Squares(*parts[::-1]), Squares(ray))
                for at in range(many):
                    self.assertIs(Squares(*parts[:at], *parts[at + 1:]) == Squares(ray), False)
                late = [(x + dx, y + dy, dx, dy) for x, y, dx, dy in parts[:1]] + parts[1:]
                self.assertNotEqual(Squares(*late), Squares(ray))
                self.assertEqual(Squares(*late) | Squares(ray[:2]), Squares(ray))
                self.assertEqual((Squares(ray) - Squares(*late)).many, 1)

    def test_by_unlike_remainders(self):
        one = Squares((0, 0, 2, 0), (1, 0, 4, 0), (3, 0, 12, 0), (7, 0, 12, 0), (11, 0, 24, 0), (23, 0, 24, 0))
        self.assertEqual(one, Squares((0, 0, 1, 0)))
        one = Squares((0, 0, 2, 0), (0, 0, 3, 0), (1, 0, 4, 0), (5, 0, 6, 0), (7, 0, 12, 0))
        self.assertEqual(one, Squares((0, 0, 1, 0)))
        self.assertNotEqual(one, Squares((0, 0, 2, 0), (0, 0, 3, 0), (1, 0, 4, 0), (5, 0, 6, 0), (7, 0, 24, 0)))

    def test_with_first_squares_taken_off(self):
        for ray in RAYS:
            for many in (1, 2, 19):
                parts = without_first(ray, many)
                self.assertEqual(Squares(*parts), Squares(ray))
                for at in range(many + 1):
                    self.assertNotEqual(Squares(*parts[:at], *parts[at + 1:]), Squares(ray))
                self.assertEqual(Squares(ray) - Squares(*parts[:-1]), Squares(parts[-1]))

    def test_from_both_ends(self):
        left, right = Squares((5, 0, -1, 0)), Squares((-5, 0, 1, 0))
        row = Squares(*((x, 0) for x in range(-5, 6)))
        self.assertEqual(left & right, row)
        self.assertEqual(left | right, Squares((0, 0, 1, 0), (0, 0, -1, 0)))
        self.assertEqual(left | right, Squares((7, 0, 1, 0), (6, 0, -1, 0)))
        self.assertNotEqual(left | right, Squares((7, 0, 1, 0), (5, 0, -1, 0)))
        self.assertEqual((left | right) - right, Squares((-6, 0, -1, 0)))
        self.assertEqual(Squares((0, 0, 6, 6)) & Squares((60, 60, -4, -4)),
                         Squares(*((k, k) for k in range(0, 61, 12))))
        far = Squares((-FAR, 0, 1, 0)) & Squares((FAR, 0, -1, 0))
        self.assertEqual(far, Squares((-FAR, 0, 2, 0), (-FAR + 1, 0, 2, 0)) & Squares((FAR, 0, -1, 0)))
        self.assertNotEqual(far, far - Squares((12345, 0)))
        self.assertEqual(far, (far - Squares((12345, 0))) | Squares((12345, 0)))
        self.assertNotEqual(far, far | Squares((FAR, 0, 1, 0)))

    def test_orders_and_twice(self):
        draw = random.Random(3)
        parts = [(0, 0), (2, 2, 3, 0), (2, 2, 0, 3), (-1, 2, 5, 0), (7, 7, -1, -1), (4, -4, 2, 5), (9, 9), (0, 2)]
        one = Squares(*parts)
        for _ in range(10):
            draw.shuffle(parts)
            self.assertEqual(Squares(*parts), one)
            self.assertEqual(Squares(*parts, *parts), one)
            self.assertEqual(Squares(*parts[:4]) | Squares(*parts[3:]), one)

    def test_one_square_more_or_less(self):
        for ray in RAYS:
            ray_set = Squares(ray)
            for square in ((ray[0] - ray[2], ray[1] - ray[3]), (ray[0] + 1, ray[1] + 1), (17, 18)):
                if square in ray_set or max(map(abs, square)) > FAR:
                    continue
                self.assertNotEqual(ray_set | Squares(square), ray_set)
                self.assertEqual((ray_set | Squares(square)) - Squares(square), ray_set)
            for many in (0, 1, 5):
                square = Squares((ray[0] + many * ray[2], ray[1] + many * ray[3]))
                self.assertNotEqual(ray_set - square, ray_set)
                self.assertEqual((ray_set - square) | square, ray_set)

    def test_nothing(self):
        for nothing in (Squares(), Squares((0, 0)) - Squares((0, 0)), Squares((0, 0, 2, 0)) & Squares((1, 0, 2, 0)),
                        Squares((0, 0, 2, 2)) - Squares((0, 0, 1, 1)), Squares((1, 0, 1, 0)) & Squares((0, 0, 0, 1))):
            self.assertEqual(nothing, Squares())
            self.assertEqual([nothing.many, nothing.endless, bool(nothing)], [0, False, False])


class OtherOperationsTest(unittest.TestCase):
    def test_equal_sets_give_equal_ones(self):
        pairs = [(Squares(*in_remainders(ray, 6)), Squares(*without_first(ray, 3))) for ray in RAYS]
        others = [Squares(ray) for ray in RAYS] + [Squares((0, 3, 1, 0), (3, 0, 0, -2), (0, 0)), Squares()]
        for one, same in pairs:
            for other in others:
                self.assertEqual(one & other, same & other)
                self.assertEqual(one | other, other | same)
                self.assertEqual(one - other, same - other)
                self.assertEqual(other - one, other - same)
                for result, told in ((one & other, same & other), (one - other, same - other),
                                     (other - one, other - same)):
                    self.assertEqual((result.many, result.endless, bool(result), result.near((3, -4), 50)),
                                     (told.many, told.endless, bool(told), told.near((3, -4), 50)))


if __name__ == "__main__":
    unittest.main()
