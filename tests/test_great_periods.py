"""Sets of times with periods to 1000, and what is joined of them."""

import math
import random
import unittest

from evertreads.times import Times
from tests.plain import parts

FAR = 10 ** 30


def some(draw, period, many):
    return tuple(sorted(draw.sample(range(period), many)))


def least_period(row):
    """The least period of a row of truths that repeats itself after its length."""
    length = len(row)
    for period in range(1, length + 1):
        if length % period == 0 and row[:length - period] == row[period:]:
            return period
    raise AssertionError("unreachable")


class MadeTest(unittest.TestCase):
    def test_many_marks(self):
        draw = random.Random(11)
        for period in (997, 1000, 999, 720, 512):
            for many in (1, 2, period // 2, period - 1, period):
                marks = some(draw, period, many)
                times = Times(2, 1500, FAR, period=period, marks=marks)
                row = [k in marks for k in range(period)]
                least = least_period(row)
                self.assertEqual(parts(times), ((2, 1500, FAR), least, tuple(k for k in marks if k < least)))
                for k in [*range(0, 3000, 7), 2, 1500, *range(FAR - 20, FAR + 20)]:
                    self.assertIs(k in times, (k % period in marks) != (k in (2, 1500, FAR)))
                held = [k for k in range(3 * period + 2000) if (k % period in marks) != (k in (2, 1500))]
                self.assertEqual(list(times.ascending(100))[:len(held)], held[:100])
                self.assertEqual(times.first, held[0])

    def test_periods_that_are_not_the_least(self):
        for least in (1, 2, 5, 8, 40, 125, 250, 333, 499, 500):
            for factor in range(1, 1000 // least + 1):
                marks = tuple(range(0, least * factor, least))
                self.assertEqual(parts(Times(7, period=least * factor, marks=marks)),
                                 ((7,), least, (0,)))

    def test_squares_of_primes(self):
        marks = tuple(k for k in range(961) if k % 31 in (3, 4))
        self.assertEqual(parts(Times(period=961, marks=marks)), ((), 31, (3, 4)))
        self.assertEqual(Times(period=961, marks=marks[:-1]).period, 961)
        marks = tuple(k for k in range(1000) if k % 200 in (0, 55))
        self.assertEqual(parts(Times(period=1000, marks=marks)), ((), 200, (0, 55)))


class JoinedTest(unittest.TestCase):
    def joined(self, one, other, near):
        """Compares the three joined sets with the marks worked out one by one."""
        length = math.lcm(one.period, other.period)
        rows = [[k % times.period in marks for k in range(length)]
                for times, marks in ((one, set(one.marks)), (other, set(other.marks)))]
        results = ((one & other, lambda x, y: x and y), (one | other, lambda x, y: x or y),
                   (one - other, lambda x, y: x and not y))
        for result, truth in results:
            row = [truth(x, y) for x, y in zip(*rows)]
            least = least_period(row)
            self.assertEqual(result.period, least)
            self.assertEqual(result.marks, tuple(k for k in range(least) if row[k]))
            numbers = tuple(k for k in sorted({*one.numbers, *other.numbers})
                            if truth(k in one, k in other) != row[k % length])
            self.assertEqual(result.numbers, numbers)
            for k in near:
                self.assertIs(k in result, truth(k in one, k in other))

    def test_products(self):
        draw = random.Random(3)
        near = [*range(0, 5000, 3), 999 * 1000, FAR - 1, FAR, FAR + 1, 10 ** 60 + 7]
        for period, many, other_period, others in (
                (997, 500, 991, 300), (1000, 999, 999, 998), (1000, 1, 999, 1), (1000, 400, 625, 300),
                (1000, 1000, 999, 3), (900, 10, 600, 300), (512, 100, 729, 5), (961, 900, 31, 7)):
            one = Times(3, 10 ** 6, FAR, period=period, marks=some(draw, period, many))
            other = Times(3, 4, FAR + 0, period=other_period, marks=some(draw, other_period, others))
            self.joined(one, other, near)

    def test_least_period_is_a_part_of_the_product(self):
        # by 4 and by 6 the same classes by 2 are cut out, so that great parts of both periods vanish
        one = Times(period=998, marks=tuple(range(1, 998, 2)))
        other = Times(period=1000, marks=tuple(k for k in range(1000) if k % 2 == 0 or k % 250 == 3))
        self.assertEqual(parts(one), ((), 2, (1,)))
        self.assertEqual(parts(one & other), ((), 250, (3,)))
        self.assertEqual(parts(one | other), ((), 1, (0,)))
        self.assertEqual(parts(other - one), ((), 2, (0,)))

    def test_returned_sets_are_joined_again(self):
        draw = random.Random(8)
        a = Times(5, period=997, marks=some(draw, 997, 400))
        b = Times(6, FAR, period=1000, marks=some(draw, 1000, 600))
        both, either, rest = a & b, a | b, a - b
        self.assertEqual(both.period, 997000)
        self.assertEqual(len(both.marks), 240000)
        self.assertEqual(both | rest, a)
        self.assertEqual(either - b, rest)
        self.assertEqual(either & a, a)
        self.assertEqual(parts(both - a), ((), 1, ()))
        self.assertEqual(parts((either - rest) - (b - a)), parts(both))
        self.assertEqual(b - (b - a), both)

    def test_answers_of_returned_sets(self):
        a = Times(period=997, marks=(996,)) & Times(period=1000, marks=(999,))
        self.assertEqual(parts(a), ((), 996999 + 1, (996999,)))
        self.assertEqual([a.first, a.many, a.endless], [996999, None, True])
        self.assertEqual(list(a.ascending(2)), [996999, 1993999])
        self.assertEqual(repr(a), "Times(period=997000, marks=(996999,))")
        b = a - Times(996999)
        self.assertEqual(b.first, 1993999)
        self.assertEqual(repr(b), "Times(996999, period=997000, marks=(996999,))")

    def test_few_marks_and_beyond_the_product(self):
        draw = random.Random(4)
        rows = [Times(period=period, marks=some(draw, period, 3)) for period in (997, 991, 983, 977)]
        a, b, c, d = rows
        one, other = (a & b) & (c & d), ((d & b) & c) & a
        self.assertEqual(one, other)
        self.assertEqual(one.period, 997 * 991 * 983 * 977)
        self.assertEqual(len(one.marks), 81)
        for k in one.ascending(81):
            self.assertTrue(all(k in times for times in rows))
        none, every = Times(), Times(period=1, marks=(0,))
        for result in (one | none, none | one, one - none, one & every, every & one, one & a, one | (one & a)):
            self.assertEqual(result, one)
        for result in (none - one, none & one, one & none, one - every, one - a, one - one):
            self.assertEqual(parts(result), ((), 1, ()))
        for result in (one | every, every | one):
            self.assertEqual(parts(result), ((), 1, (0,)))
        missing = next(k for k in range(5) if k not in one)
        self.assertEqual(parts(one | Times(missing)), ((missing,), one.period, one.marks))
        self.assertEqual(parts(one | Times(missing, period=1, marks=(0,))), ((missing,), 1, (0,)))


if __name__ == "__main__":
    unittest.main()
