"""Rules that tell which integers of a line are held, and the searches in them, compared with rows of bits.

The searches write short rows out. Here they also have to do without that, by limits set down.
"""

import contextlib
import math
import random
import unittest
from unittest import mock

from evertreads import rules, searches, sieves, tracks
from evertreads.bits import least, ones, places, raised, repeated, window

MOVES = ((2, 3, 4, 5, 6, 8, 9, 10, 12), (2, 4, 8, 3, 6, 12, 24), (2, 3, 5, 7, 6, 10, 14, 15, 21), (30, 12, 20, 15, 18))
TRUTHS = ((rules.BOTH, lambda x, y: x & y), (rules.EITHER, lambda x, y: x | y), (rules.FIRST, lambda x, y: x & ~y),
          (rules.ONE, lambda x, y: x ^ y))


@contextlib.contextmanager
def limits(tabled, bits, marks, written=5040):
    with contextlib.ExitStack() as stack:
        for module, name, worth in ((rules, "MOST_TABLED", tabled), (sieves, "MOST_BITS", bits),
                                    (searches, "MOST_BITS", bits), (searches, "FEW_MARKS", marks),
                                    (tracks, "MOST_WRITTEN", written)):
            stack.enter_context(mock.patch.object(module, name, worth))
        yield


def united(classes):
    rule = rules.NEVER
    for rest, period in classes:
        rule = rules.joined(rule, rules.plain(period, 1 << rest), rules.EITHER)
    return rule


def pool(draw, moves, length):
    """Pairs of a rule and its bits, made in some steps."""
    found = []
    for _ in range(4):
        classes = [(draw.randrange(period), period) for period in draw.choices(moves, k=draw.randint(1, 8))]
        bits = raised([k for k in range(length) if any(k % period == rest for rest, period in classes)])
        found.append((united(classes), bits))
    for _ in range(5):
        (one, bits), (other, other_bits) = draw.choice(found), draw.choice(found)
        truths, sign = draw.choice(TRUTHS)
        found.append((rules.joined(one, other, truths), sign(bits, other_bits)))
    return found


class BitsTest(unittest.TestCase):
    def test_rows(self):
        self.assertEqual([repeated(3, 0b101, 0), repeated(3, 0b101, 2), repeated(3, 0b101, 8)], [0, 0b01, 0b01101101])
        self.assertEqual(window(3, 0b101, -1, 4), 0b1011)
        self.assertEqual(window(3, 0b001, 10 ** 30, 5), 0b100 | 0)
        self.assertEqual([least(6, 0b101101), least(6, 0b100100), least(6, 0b111111), least(6, 0)],
                         [(3, 0b101), (3, 0b100), (1, 1), (1, 0)])
        self.assertEqual([ones(0), ones(0b1011), places(0), places(0b1011), raised((0, 1, 3)), raised(())],
                         [0, 3, (), (0, 1, 3), 0b1011, 0])


class RulesTest(unittest.TestCase):
    def compared(self, draw, rule, bits, length):
        self.assertEqual(rules.told(rule, 0, length), bits)
        self.assertIs(searches.holds_any(rule), bits != 0)
        for _ in range(4):
            start, many = draw.randint(-1000, 1000), draw.choice((draw.randint(0, 20), draw.randint(0, 2000)))
            row = [k for k in range(start, start + many) if (bits >> (k % length)) & 1]
            self.assertEqual(searches.many_in(rule, start, many), len(row))
            for most in (1, 2, len(row), len(row) + 1):
                if most > 0:
                    self.assertEqual(min(most, searches.many_in(rule, start, many, most)), min(most, len(row)))
            for k in range(start, start + 5):
                self.assertIs(rules.holds(rule, k), (bits >> (k % length)) & 1 == 1)
        rounds, rest = divmod(10 ** 30 + 77, length)
        self.assertEqual(searches.many_in(rule, 5 * length, 10 ** 30 + 77),
                         rounds * ones(bits) + ones(bits & ((1 << rest) - 1)))

    def test_under_all_limits(self):
        for set_down in ((360, 65536, 8), (1, 1, 8), (1, 4, 0), (1, 1, 2), (10, 20, 4)):
            draw = random.Random(9)
            with limits(*set_down):
                for round_ in range(8):
                    moves = MOVES[round_ % len(MOVES)]
                    length = math.lcm(*moves)
                    for rule, bits in pool(draw, moves, length):
                        self.compared(draw, rule, bits, length)

    def test_equal_by_the_rules_of_sets_alone(self):
        draw = random.Random(10)
        for _ in range(10):
            a, b, c = (united([(draw.randrange(period), period) for period in draw.sample(range(300, 1000), 20)])
                       for _ in range(3))

            def both(x, y):
                return rules.joined(x, y, rules.BOTH)

            def either(x, y):
                return rules.joined(x, y, rules.EITHER)
            self.assertEqual(both(a, either(b, c)), either(both(a, b), both(a, c)))
            self.assertEqual(either(a, either(b, c)), either(either(c, a), b))
            self.assertEqual(either(a, both(a, b)), a)
            self.assertEqual(rules.joined(a, a, rules.ONE), rules.NEVER)

    def test_small_periods_by_one_node(self):
        self.assertEqual(united([(0, 4), (2, 4)]), rules.plain(2, 1))
        self.assertEqual(united([(0, 2), (1, 2)]), (1, ()))
        self.assertEqual(rules.plain(5, 0), rules.NEVER)
        self.assertEqual(united([(1, 6), (3, 6), (5, 6)]), (2, ((2, 0b10, 0, 1),)))


class SievesTest(unittest.TestCase):
    def test_what_is_left(self):
        draw = random.Random(11)
        for bits in (65536, 1):
            with limits(360, bits, 8):
                for _ in range(200):
                    rows = [(period, tuple(sorted(draw.sample(range(period), draw.randint(0, (period + 2) // 2)))))
                            for period in draw.choices((1, 2, 3, 4, 6, 8, 9, 12, 5, 10), k=draw.randint(0, 5))]
                    length = math.lcm(*[period for period, _ in rows])
                    left = [all(k % period not in marks for period, marks in rows) for k in range(2 * length)]
                    self.assertIs(sieves.leave_some(rows), any(left))
                    for many in (0, 1, length // 2, length, 2 * length):
                        self.assertEqual(sieves.left_of(many, rows), sum(left[:many]))

    def test_great_covers(self):
        with limits(360, 64, 8):
            # by unlike primes so few marks never take everything away
            primes = (2, 3, 5, 7, 11, 13, 17, 19, 23, 29, 31, 37)
            self.assertIs(sieves.leave_some([(prime, tuple(range(prime - 1))) for prime in primes]), True)
            self.assertIs(sieves.leave_some([(prime, tuple(range(prime))) for prime in primes[5:6]]
                                            + [(prime, (0,)) for prime in primes]), False)
            cover = [(2, (0,)), (3, (0,)), (4, (1,)), (6, (5,)), (12, (7,))]
            self.assertIs(sieves.leave_some(cover + [(prime * 5, (1, 2)) for prime in primes]), False)
            self.assertIs(sieves.leave_some(cover[:-1] + [(prime * 5, (1, 2)) for prime in primes]), True)


class TracksTest(unittest.TestCase):
    def test_under_all_limits(self):
        for set_down in ((360, 65536, 8, 5040), (1, 1, 8, 1), (1, 4, 0, 1), (2, 10, 2, 5)):
            draw = random.Random(12)
            with limits(*set_down):
                for _ in range(40):
                    self.compared(draw)

    def compared(self, draw):
        rows = [[(draw.randint(-9, 9), draw.choice((1, 2, 3, 4, 6, 12, -1, -2, -3, -4)))
                 for _ in range(draw.randint(1, 5))] for _ in range(2)]
        one, other = (tracks.track_of(row) for row in rows)
        for truths, _ in TRUTHS:
            track = tracks.joined_tracks(one, other, truths)
            held = [k for k in range(-60, 61) if truths[self.held(rows[0], k)][self.held(rows[1], k)]]
            self.assertEqual([k for k in range(-60, 61) if tracks.on_track(track, k)], held)
            endless = any(abs(k) > 30 for k in held)
            self.assertIs(tracks.endless_track(track), endless)
            if not endless:
                self.assertEqual(tracks.many_on(track), len(held))
            for few in (0, 1, len(held) - 1, len(held)):
                if few >= 0:
                    self.assertIs(tracks.more_on(track, few), endless or len(held) > few)

    def held(self, rays, number):
        return any((number - first) % step == 0 and (number - first) // step >= 0 for first, step in rays)


if __name__ == "__main__":
    unittest.main()
