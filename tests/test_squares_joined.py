"""Sets of squares joined, cut and taken away, compared with sets worked out square by square."""

import random
import unittest

from evertreads.squares import Squares
from tests.plain_squares import held, joinings, laws, members
from tests.wrong import FAR

EDGE = 600
SLOPES = (((1, 0),), ((1, 0), (0, 1)), ((1, 0), (1, 1), (0, 1), (1, -1)), ((1, 2), (2, 1), (1, 0)),
          ((3, 1), (1, -2), (0, 1)))


def some_parts(draw, slopes, most=6):
    parts = []
    for _ in range(draw.randint(0, most)):
        square = draw.randint(-6, 6), draw.choice((0, 0, draw.randint(-6, 6)))
        dx, dy = draw.choice(slopes)
        many = draw.choice((1, 1, 2, 3, -1, -2, -3))
        parts.append(square if draw.random() < 0.3 else square + (dx * many, dy * many))
    return parts


class PlainTest(unittest.TestCase):
    """Parts begin within 6 of (0, 0), so that what is finite lies within a few hundred squares."""

    def same(self, squares, found):
        endless = any(abs(x) > EDGE // 2 or abs(y) > EDGE // 2 for x, y in found)
        self.assertIs(squares.endless, endless)
        self.assertEqual(squares.many, None if endless else len(found))
        self.assertIs(bool(squares), len(found) > 0)
        self.assertEqual(squares.near((0, 0), 50),
                         tuple(sorted(square for square in found if max(map(abs, square)) <= 50)))
        for square in sorted(found)[::7]:
            self.assertIs(square in squares, True)

    def test_pairs(self):
        draw = random.Random(4)
        for round_ in range(120):
            slopes = SLOPES[round_ % len(SLOPES)]
            rows = [some_parts(draw, slopes) for _ in range(3)]
            sets = [Squares(*row) for row in rows]
            plain = [members(row, EDGE) for row in rows]
            for at in range(3):
                for behind in range(3):
                    one, other = plain[at], plain[behind]
                    self.same(sets[at] & sets[behind], one & other)
                    self.same(sets[at] | sets[behind], one | other)
                    self.same(sets[at] - sets[behind], one - other)
                    self.assertIs(sets[at] == sets[behind], one == other)

    def test_what_comes_of_several(self):
        draw = random.Random(5)
        for round_ in range(40):
            slopes = SLOPES[round_ % len(SLOPES)]
            rows = [some_parts(draw, slopes) for _ in range(3)]
            pool = [(Squares(*row), members(row, EDGE)) for row in rows]
            for _ in range(8):
                (a, p), (b, q) = draw.choice(pool), draw.choice(pool)
                pool.append(draw.choice(((a & b, p & q), (a | b, p | q), (a - b, p - q))))
                self.same(*pool[-1])
            for a, p in pool:
                for b, q in pool:
                    self.assertIs(a == b, p == q)

    def test_rules_of_sets(self):
        draw = random.Random(6)
        for round_ in range(25):
            slopes = SLOPES[round_ % len(SLOPES)]
            a, b, c = (Squares(*some_parts(draw, slopes)) for _ in range(3))
            for at, (one, other) in enumerate(laws(a, b, c)):
                self.assertEqual(one, other, at)
                self.assertIs(one != other, False)


class FarTest(unittest.TestCase):
    ROWS = (
        ((0, 0, 1, 0), (FAR, 3, 0, -1), (-FAR, -FAR, 1, 1)),
        ((FAR, 0, -1, 0), (FAR, -FAR, 0, 1), (FAR, FAR, -1, -1), (5, 0)),
        ((FAR - 7, 0, 3, 0), (-FAR, 0, 7, 0), (0, 0, 5, 5), (FAR, FAR)),
        ((1, 0, -3, 0), (FAR - 1, 0, -7, 0), (FAR, FAR, 3, 3), (-FAR, FAR, 2, -2)),
        ((0, -FAR, 0, 1000), (0, FAR, 0, -999), (FAR, 1, 1000, 999), (FAR - 1000, -998, -1000, -999)),
    )

    def spots(self):
        """Squares about the beginnings, along the rays, and on their lines behind the beginnings."""
        found = set()
        for parts in self.ROWS:
            for x, y, dx, dy in [(*part, 0, 0)[:4] for part in parts]:
                for many in (-FAR, -1, 0, 1, 2, 7, 2 * 10 ** 27, FAR // 3, FAR, FAR + 1, 3 * FAR + 2, 10 ** 45):
                    for aside in (-1, 0, 1):
                        found.add((x + many * dx + aside, y + many * dy))
                        found.add((x + many * dx, y + many * dy + aside))
        return sorted(found)

    def test_held_just_if_the_two_say_so(self):
        spots = self.spots()
        for row in self.ROWS:
            for other in self.ROWS:
                for result, truth in joinings(Squares(*row), Squares(*other)):
                    for spot in spots:
                        self.assertIs(spot in result, truth(held(spot, row), held(spot, other)), (row, other, spot))

    def test_against_one_another(self):
        one, other = Squares((0, 0, 1, 0)), Squares((FAR, 0, -1, 0))
        both = one & other
        self.assertEqual([both.endless, both.many, bool(both)], [False, FAR + 1, True])
        self.assertEqual([(one - other).many, (one - other).endless], [None, True])
        self.assertEqual(((one | other) - (one & other)).near((0, 0), 2), ((-2, 0), (-1, 0)))
        self.assertEqual((one & other & Squares((0, 0, 7, 0))).many, FAR // 7 + 1)
        self.assertEqual((both - Squares((0, 0, 7, 0)) - Squares((3, 0), (7, 0))).many, FAR - FAR // 7 - 1)
        self.assertEqual((Squares((-FAR, 0, 1000, 0)) & Squares((FAR, 0, -999, 0))).many, 2 * FAR // 999000 + 1)
        self.assertEqual((Squares((-FAR, 0, 1000, 0)) & Squares((FAR - 505, 0, -990, 0))).many, 0)
        self.assertIs(bool(Squares((-FAR, 0, 1000, 0)) & Squares((FAR - 505, 0, -990, 0))), False)

    def test_in_one_direction(self):
        late, early = Squares((FAR, FAR, 6, 6)), Squares((-FAR, -FAR, 4, 4))
        # FAR - (-FAR) leaves 2 by 6 and 0 by 4
        both = late & early
        self.assertEqual(both, Squares((FAR, FAR, 12, 12)))
        self.assertIs(both.endless, True)
        self.assertEqual((Squares((0, 0, 2, 0)) - Squares((FAR, 0, 2, 0))).many, FAR // 2)
        self.assertEqual((Squares((0, 0, 2, 0)) - Squares((FAR - 4, 0, 4, 0), (FAR - 2, 0, 4, 0))).many, FAR // 2 - 2)
        self.assertIs((Squares((0, 0, 2, 0)) - Squares((FAR - 4, 0, 4, 0), (FAR - 2, 0, 6, 0))).endless, True)
        self.assertEqual((Squares((0, 0, 2, 0)) & Squares((1, 0, 2, 0))).many, 0)

    def test_across(self):
        level, steep = Squares((-FAR, 0, 1, 0)), Squares((3, -FAR, 0, 1))
        self.assertEqual((level & steep).near((0, 0), 50), ((3, 0),))
        self.assertEqual((level & steep).many, 1)
        self.assertEqual((level & Squares((3, -FAR, 0, 7))).many, int(FAR % 7 == 0))
        self.assertEqual((level & Squares((3, -FAR, 0, 8))).many, 1)
        self.assertEqual((Squares((0, 0, 1, 1)) & Squares((1, 0, -1, 1))).many, 0)
        self.assertEqual((Squares((0, 0, 1, 1)) & Squares((2, 0, -1, 1))).near((1, 1), 0), ((1, 1),))
        # the crossing lies behind the beginnings
        self.assertEqual((Squares((1, 0, 1, 0)) & Squares((0, 0, 0, 1))).many, 0)
        far = Squares((-FAR, -FAR, 1000, 999)) & Squares((-FAR, -FAR, 999, 1000))
        self.assertEqual([far.many, (-FAR, -FAR) in far], [1, True])
        far = Squares((0, FAR, 1000, -1)) & Squares((0, -FAR, 1000, 1))
        self.assertEqual([far.many, (1000 * FAR, 0) in far, bool(far)], [1, True, True])

    def test_crossing_in_three_sets(self):
        a, b, c = Squares((0, 0, 1, 0)), Squares((5, -5, 0, 1)), Squares((0, -5, 1, 1), (10, 5, -1, -1))
        self.assertEqual((a & b & c).near((0, 0), 50), ((5, 0),))
        rest = (a | b | c) - (a & b)
        self.assertEqual([(5, 0) in rest, (4, 0) in rest, (6, 1) in rest, (5, 1) in rest], [False, True, True, True])
        self.assertEqual((rest | Squares((5, 0))), a | b | c)
        self.assertEqual((a - b).near((5, 0), 1), ((4, 0), (6, 0)))
        self.assertIs((5, 0) in (a - b) | (b - a), False)
        self.assertEqual(((a - b) | (b - a)) & c, c & Squares())


class StayTest(unittest.TestCase):
    def test_the_two_sets_stay_as_they_were(self):
        rows = ((0, 0, 1, 0), (3, 3)), ((2, -2, 0, 1), (4, 0, 2, 0), (3, 3)), ()
        sets = [Squares(*row) for row in rows]
        for one in sets:
            for other in sets:
                for result, _ in joinings(one, other):
                    self.assertIs(type(result), Squares)
                    self.assertIsNot(result, one)
                    self.assertIsNot(result, other)
                self.assertIn(one == other, (True, False))
        for row, squares in zip(rows, sets):
            self.assertEqual(squares, Squares(*row))
            self.assertEqual(squares.near((0, 0), 20), tuple(sorted(members(row, 20))))

    def test_in_place_signs_make_new_sets(self):
        a = b = Squares((0, 0, 1, 0))
        a |= Squares((0, 1))
        a &= Squares((0, -1, 0, 1), (4, 0), (5, 0))
        a -= Squares((4, 0))
        self.assertEqual(a, Squares((0, 0), (0, 1), (5, 0)))
        self.assertEqual(b, Squares((0, 0, 1, 0)))

    def test_told_once_more(self):
        def tell():
            a, b = Squares((0, 0, 2, 0), (1, 1, 0, -1)), Squares((8, 0, -1, 0), (0, 0, 1, 1))
            return [(s.endless, s.many, bool(s), s.near((1, 0), 9)) for s, _ in joinings(a, b)]
        first = tell()
        a = Squares((0, 0, 2, 0), (1, 1, 0, -1))
        kept = a | Squares((7, 7))
        before = kept.near((5, 5), 9), kept.many
        for part in ((7, 7), (7, 7, 1, 0), (0, 0, 2, 0)):
            self.assertEqual(kept - Squares(part) | Squares(part) | kept, kept | Squares(part))
        self.assertEqual((kept.near((5, 5), 9), kept.many), before)
        self.assertEqual(tell(), first)


if __name__ == "__main__":
    unittest.main()
