"""Sets of twenty parts, with moves up to 1000 along common lines, whose common periods nobody can write out."""

import math
import random
import unittest

from evertreads.squares import Squares
from tests.plain_squares import held, joinings, laws
from tests.wrong import FAR

NEAR_PRIMES = (1000, 999, 997, 991, 983, 977, 971, 967, 953, 947, 941, 937, 929, 919, 911, 907, 887, 883, 881, 877)


def some_rays(draw, most=1000, lines=((1, 0),), starts=3000):
    parts = []
    for _ in range(20):
        dx, dy = draw.choice(lines)
        move = draw.randint(1, most // max(abs(dx), abs(dy)))
        move *= draw.choice((1, -1))
        along = draw.choice((draw.randint(-starts, starts), draw.choice((FAR, -FAR)) // 4 + draw.randint(0, starts)))
        parts.append((along * dx, along * dy, move * dx, move * dy))
    return parts


def told_in_twenty(draw, rays):
    """The same squares in up to twenty rays, told by remainders."""
    parts = list(rays)
    for _ in range(60):
        at = draw.randrange(len(parts))
        x, y, dx, dy = parts[at]
        many = draw.choice((2, 3, 4, 5))
        if max(abs(dx), abs(dy)) * many <= 1000 and len(parts) + many <= 21:
            parts[at:at + 1] = [(x + k * dx, y + k * dy, dx * many, dy * many) for k in range(many)]
    draw.shuffle(parts)
    return parts


class MembersTest(unittest.TestCase):
    def test_held_just_if_the_two_say_so(self):
        draw = random.Random(1)
        for lines in (((1, 0),), ((0, 1),), ((1, 0), (0, 1), (1, 1)), ((2, 3), (3, -2))):
            row, other = some_rays(draw, 1000, lines), some_rays(draw, 1000, lines)
            spots = [(x + many * dx, y + many * dy) for x, y, dx, dy in row + other
                     for many in (-1, 0, 1, *map(draw.randrange, (10 ** 4, 10 ** 30, 10 ** 40)))]
            for result, truth in joinings(Squares(*row), Squares(*other)):
                for spot in spots:
                    self.assertIs(spot in result, truth(held(spot, row), held(spot, other)), (spot, row, other))
                x, y = draw.choice(row)[:2] if lines == ((1, 0),) else (0, 0)
                wanted = [(p, q) for p in range(x - 50, x + 51) for q in range(y - 50, y + 51)
                          if truth(held((p, q), row), held((p, q), other))]
                self.assertEqual(result.near((x, y), 50), tuple(wanted))


class ToldTest(unittest.TestCase):
    def test_ordinary_rules(self):
        draw = random.Random(2)
        for most, lines in ((1000, ((1, 0),)), (60, ((1, 0),)), (1000, ((1, 1), (1, -1))), (12, ((0, 1), (1, 0)))):
            a, b, c = (Squares(*some_rays(draw, most, lines)) for _ in range(3))
            for at, (one, other) in enumerate(laws(a, b, c)):
                self.assertEqual(one, other, (at, most, lines))
            self.assertNotEqual(a, b)

    def test_told_by_remainders(self):
        draw = random.Random(3)
        for most in (6, 30, 100, 250):
            noise = Squares(*some_rays(draw))
            for many in (1, 2, 4):
                rays = some_rays(draw, most)[:many]
                parts = told_in_twenty(draw, rays)
                one, same = Squares(*rays), Squares(*parts)
                self.assertEqual(one, same)
                for result, told in zip(joinings(one, noise), joinings(same, noise)):
                    self.assertEqual(result[0], told[0])
                self.assertEqual(noise - one, noise - same)
                at = draw.randrange(len(parts))
                x, y, dx, dy = parts[at]
                late = Squares(*parts[:at], (x + dx, y + dy, dx, dy), *parts[at + 1:])
                alone = not held((x, y), parts[:at] + parts[at + 1:])
                self.assertIs(one == late, not alone)
                self.assertEqual((one - late).many, int(alone))
                self.assertEqual(late | Squares((x, y)), same)

    def test_other_order_and_twice(self):
        draw = random.Random(4)
        rays = some_rays(draw)
        one = Squares(*rays)
        self.assertEqual(one, Squares(*rays[::-1]))
        self.assertEqual(one, Squares(*rays[:12]) | Squares(*rays[7:]))
        self.assertEqual(Squares(*rays[:10]), Squares(*rays[:10], *rays[9::-1]))
        for at in (0, 7, 19):
            self.assertEqual(one - Squares(*rays[:at], *rays[at + 1:]),
                             Squares(rays[at]) - Squares(*rays[:at], *rays[at + 1:]))

    def test_unlike_primes(self):
        rays = [(0, 0, move, 0) for move in NEAR_PRIMES]
        a, line = Squares(*rays), Squares((0, 0, 1, 0))
        b = Squares(*((1, 0, move, 0) for move in NEAR_PRIMES))
        self.assertIs((line - a).endless, True)
        self.assertEqual((a - line).many, 0)
        self.assertIs((a & b).endless, True)
        self.assertIs((a - b).endless, True)
        # 1001 = 1 + 1000 is the first that b has beside 1
        self.assertEqual((a & b).near((0, 0), 50), ())
        self.assertEqual((line - a).near((0, 0), 50), tuple((x, 0) for x in range(1, 51)))
        product = math.lcm(*NEAR_PRIMES)
        self.assertIs(all((product + x, 0) in line - a for x in range(1, 877)), True)
        self.assertIs((product, 0) in line - a, False)
        all_of_them = line
        for ray in rays:
            all_of_them = all_of_them & Squares(ray)
        self.assertIs(all_of_them.endless, True)
        self.assertIs((product, 0) in all_of_them, True)
        self.assertEqual((all_of_them & Squares((FAR, 0, -1, 0))), Squares((0, 0)))
        self.assertEqual((all_of_them & Squares((FAR, 0, -1, 0))).many, 1)

    def test_everything_taken_away(self):
        # remainders that cover all integers only together, and not without any one of them
        cover = [(0, 2), (0, 3), (1, 4), (5, 6), (7, 12)]
        for line in (1, 83):
            rays = [(rest * line, 0, period * line, 0) for rest, period in cover]
            noise = [(k, 0, move, 0) for k, move in enumerate(NEAR_PRIMES[:15], 1)]
            whole = Squares((0, 0, line, 0))
            self.assertEqual((whole - Squares(*rays, *noise)).many, 0)
            self.assertIs(bool(whole - Squares(*rays, *noise)), False)
            for at in range(5):
                rest = whole - Squares(*rays[:at], *rays[at + 1:], *noise)
                self.assertEqual([rest.endless, rest.many, bool(rest)], [True, None, True])


class ManyTest(unittest.TestCase):
    def test_two_and_three_moves_to_the_greatest(self):
        end = Squares((FAR, 0, -1, 0))
        for a, b, c in ((1000, 999, 997), (7, 11, 13), (6, 10, 15), (991, 983, 977)):
            def multiples(number):
                return FAR // number + 1
            one = Squares((0, 0, a, 0), (0, 0, b, 0), (0, 0, c, 0)) & end
            wanted = (multiples(a) + multiples(b) + multiples(c) - multiples(math.lcm(a, b))
                      - multiples(math.lcm(a, c)) - multiples(math.lcm(b, c)) + multiples(math.lcm(a, b, c)))
            self.assertEqual(one.many, wanted)
            self.assertEqual((Squares((0, 0, 1, 0)) & end) - one, (Squares((0, 0, 1, 0)) - one) & end)
            self.assertEqual(((Squares((0, 0, 1, 0)) & end) - one).many, FAR + 1 - wanted)

    def test_between_beginnings(self):
        draw = random.Random(7)
        for most in (12, 100, 1000):
            there = [(draw.randint(-500, 500), 0, draw.randint(1, most), 0) for _ in range(20)]
            back = [(8000 + draw.randint(-500, 500), 0, -draw.randint(1, most), 0) for _ in range(20)]
            one, other = Squares(*there), Squares(*back)
            self.assertEqual((one & other).many,
                             sum(held((x, 0), there) and held((x, 0), back) for x in range(-500, 8501)))
            far = Squares(*((x + FAR - 9000, y, dx, dy) for x, y, dx, dy in there))
            far_back = Squares(*((x + FAR - 9000, y, dx, dy) for x, y, dx, dy in back))
            self.assertEqual((far & far_back).many, (one & other).many)
            self.assertEqual([(one & other).endless, (one - other).endless, (one | other).many], [False, True, None])

    def test_all_together(self):
        draw = random.Random(8)
        end = Squares((10 ** 15, 0, -1, 0))
        for most in (20, 200, 1000):
            a = Squares(*((draw.randint(0, 900), 0, draw.randint(1, most), 0) for _ in range(5))) & end
            b = Squares(*((draw.randint(0, 900), 0, draw.randint(1, most), 0) for _ in range(5))) & end
            self.assertEqual((a | b).many, a.many + b.many - (a & b).many)
            self.assertEqual((a - b).many, a.many - (a & b).many)


if __name__ == "__main__":
    unittest.main()
