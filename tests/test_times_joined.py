"""Sets of times joined, cut and taken away, with small periods."""

import math
import unittest

from evertreads.times import Times
from tests.plain import member, parts, subsets, told

FAR = 10 ** 30


def rules(one, other):
    """For each sign the set that the package returns, and the truth that it stands for."""
    return ((one & other, lambda x, y: x and y), (one | other, lambda x, y: x or y),
            (one - other, lambda x, y: x and not y))


def makings():
    rows = ((), (0,), (1, 2), (0, 3, 4), (5,))
    return [(numbers, period, marks) for period in (1, 2, 3, 4) for marks in subsets(range(period))
            for numbers in rows]


class SmallTest(unittest.TestCase):
    def test_all_pairs(self):
        made = [(making, Times(*making[0], period=making[1], marks=making[2])) for making in makings()]
        for (numbers, period, marks), one in made:
            for (others, other_period, other_marks), other in made:
                for result, truth in rules(one, other):
                    wanted = told(
                        lambda k: truth(member(k, numbers, period, marks),
                                        member(k, others, other_period, other_marks)),
                        lambda k: truth(k % period in marks, k % other_period in other_marks),
                        math.lcm(period, other_period), 8)
                    if parts(result) != wanted:
                        self.fail(f"{one} with {other}: {result}, not {wanted}")

    def test_members(self):
        one, other = Times(2, 5, 6, FAR, period=6, marks=(0, 2)), Times(2, 3, 5, FAR + 0, period=4, marks=(1, 2))
        for result, truth in rules(one, other):
            for k in [*range(60), *range(FAR - 30, FAR + 30), 10 ** 50 + 2, 10 ** 79]:
                self.assertIs(k in result, truth(k in one, k in other), k)
            for value in (-1, -12, True, False, None, "0"):
                self.assertIs(value in result, False)


class ChainsTest(unittest.TestCase):
    def makings(self):
        return [Times(), Times(0, 4, FAR), Times(period=1, marks=(0,)), Times(3, 10, period=4, marks=(1, 2)),
                Times(period=6, marks=(0, 3, 4)), Times(1, 2, FAR, period=10, marks=(1, 6, 7)),
                Times(0, period=9, marks=(0, 1, 5))]

    def test_equal_in_whatever_way_they_were_made(self):
        for a in self.makings():
            for b in self.makings():
                self.assertEqual(a & b, b & a)
                self.assertEqual(a | b, b | a)
                self.assertEqual((a - b) | (a & b), a)
                self.assertEqual((a | b) - b, a - b)
                self.assertEqual(a & (a | b), a)
                self.assertEqual((a - b) & b, Times())
                self.assertEqual(parts((a - b) & b), ((), 1, ()))
                for c in self.makings():
                    self.assertEqual((a & b) & c, a & (b & c))
                    self.assertEqual((a | b) | c, a | (b | c))
                    self.assertEqual(a & (b | c), (a & b) | (a & c))
                    self.assertEqual(a - (b | c), (a - b) - c)
                    self.assertEqual(a - (b & c), (a - b) | (a - c))

    def test_with_itself(self):
        for a in self.makings():
            self.assertEqual(a & a, a)
            self.assertEqual(a | a, a)
            self.assertEqual(a - a, Times())
            self.assertIs(bool(a - a), False)

    def test_they_stay_as_they_were(self):
        a, b = Times(1, 8, period=6, marks=(1, 4)), Times(0, FAR, period=4, marks=(0, 1))
        before = parts(a), parts(b)
        for result, _ in rules(a, b):
            self.assertIsNot(result, a)
            self.assertIs(type(result), Times)
        self.assertEqual((parts(a), parts(b)), before)

    def test_in_place_signs_make_new_sets(self):
        a = b = Times(period=2, marks=(1,))
        a |= Times(4)
        a &= Times(1, 2, 3, 4)
        a -= Times(3)
        self.assertEqual(a, Times(1, 4))
        self.assertEqual(parts(b), ((), 2, (1,)))


class NumbersTest(unittest.TestCase):
    def test_numbers_that_come_and_go(self):
        odd, some = Times(period=2, marks=(1,)), Times(2, 3, 10 ** 20)
        self.assertEqual(parts(odd & some), ((3,), 1, ()))
        self.assertEqual(parts(odd | some), ((2, 10 ** 20), 2, (1,)))
        self.assertEqual(parts(odd - some), ((3,), 2, (1,)))
        self.assertEqual(parts(some - odd), ((2, 10 ** 20), 1, ()))
        holed = Times(1, 2, period=1, marks=(0,))
        self.assertEqual(parts(holed | Times(1)), ((2,), 1, (0,)))
        self.assertEqual(parts(holed | Times(1, 2, 3)), ((), 1, (0,)))
        self.assertEqual(parts(Times(1, 2, 3) - Times(1, 2, 3)), ((), 1, ()))
        self.assertEqual(parts(holed & Times(1, period=1, marks=(0,))), ((1, 2), 1, (0,)))

    def test_great_numbers(self):
        a, b = Times(0, FAR - 1, FAR, period=3, marks=(1,)), Times(FAR - 1, period=3, marks=(0, 1))
        # 10 ** 30 leaves 1 by 3, and 10 ** 30 - 1 leaves 0
        self.assertEqual(parts(a & b), ((0, FAR), 3, (1,)))
        self.assertEqual(parts(a | b), ((), 3, (0, 1)))
        self.assertEqual(parts(a - b), ((FAR - 1,), 1, ()))
        self.assertEqual(parts(b - a), ((0, FAR - 1, FAR), 3, (0,)))

    def test_answers_of_returned_sets(self):
        a = Times(period=2, marks=(1,)) & Times(period=3, marks=(2,))
        self.assertEqual(parts(a), ((), 6, (5,)))
        self.assertEqual([a.first, a.endless, a.many, bool(a)], [5, True, None, True])
        self.assertEqual(list(a.ascending(3)), [5, 11, 17])
        b = Times(3, 4, FAR) - a
        self.assertEqual([b.first, b.endless, b.many, bool(b)], [3, False, 3, True])
        self.assertEqual(repr(b), f"Times(3, 4, {FAR}, period=1, marks=())")
        c = a & Times(period=2, marks=(0,))
        self.assertEqual([c.first, c.endless, c.many, bool(c)], [None, False, 0, False])
        self.assertEqual(repr(c), "Times(period=1, marks=())")

    def test_least_period(self):
        self.assertEqual(parts(Times(period=4, marks=(0,)) | Times(period=4, marks=(2,))), ((), 2, (0,)))
        self.assertEqual(parts(Times(period=6, marks=(0, 1, 2, 3)) & Times(period=2, marks=(0,))), ((), 6, (0, 2)))
        self.assertEqual(parts(Times(period=2, marks=(0,)) | Times(period=2, marks=(1,))), ((), 1, (0,)))
        self.assertEqual(parts(Times(period=6, marks=(0, 1)) - Times(period=6, marks=(1,))), ((), 6, (0,)))
        self.assertEqual(parts(Times(period=6, marks=(0, 1, 3)) - Times(period=4, marks=(1, 3))),
                         ((), 6, (0,)))


class UncheckedTest(unittest.TestCase):
    """Sets with numbers that nobody may pass, as other parts of the package return them."""

    def test_numbers_beyond_the_greatest(self):
        from evertreads.times import unchecked
        a = unchecked((4, 7 * FAR), 6, (0, 2, 4))
        self.assertEqual(parts(a), ((4, 7 * FAR), 2, (0,)))
        self.assertIs(7 * FAR in a, False)
        self.assertIs(7 * FAR + 2 in a, True)
        self.assertEqual(parts(a | Times(4)), ((7 * FAR,), 2, (0,)))
        self.assertEqual(parts(Times(period=2, marks=(0,)) - a), ((4, 7 * FAR), 1, ()))
        self.assertEqual((Times(FAR, period=2, marks=(0,)) - a).many, 2)
        self.assertEqual(list((Times(period=2, marks=(0,)) - a).ascending(100)), [4, 7 * FAR])


if __name__ == "__main__":
    unittest.main()
