"""How sets of times are made and told."""

import enum
import types
import unittest

from evertreads.errors import InvalidCount, InvalidParts
from evertreads.times import Times
from tests.plain import member, parts, subsets, told

FAR = 10 ** 30


class Whole(enum.IntEnum):
    TWO = 2
    FIVE = 5


class Same:
    def __eq__(self, other):
        return True


def small_sets():
    """(numbers, period, marks) of many small sets."""
    rows = subsets((0, 1, 2, 3, 5)) + [(7, 8, 9), (11,), (12, 20)]
    return [(numbers, period, marks) for period in (1, 2, 3, 4, 6) for marks in subsets(range(period))
            for numbers in rows]


class MembersTest(unittest.TestCase):
    def test_small_sets(self):
        for numbers, period, marks in small_sets():
            times = Times(*numbers, period=period, marks=marks)
            for k in range(40):
                self.assertIs(k in times, member(k, numbers, period, marks), (k, numbers, period, marks))

    def test_far_out(self):
        times = Times(3, FAR - 1, FAR, period=7, marks=(1, 4))
        for k in (FAR - 8, FAR - 1, FAR, FAR + 1, FAR + 2, FAR + 3, 10 ** 60 + 5):
            self.assertIs(k in times, member(k, (3, FAR - 1, FAR), 7, (1, 4)))

    def test_below_zero(self):
        times = Times(period=1, marks=(0,))
        for k in (-1, -2, -FAR, -10 ** 60):
            self.assertIs(k in times, False)

    def test_what_is_no_integer(self):
        times = Times(period=1, marks=(0,))
        self.assertIn(0, times)
        self.assertIn(1, times)
        for value in (True, False, None, "0", "", b"1", (0,), (), [], [1], {}, {1: 2}, set(), object(), int, len,
                      Same(), times, Times(0), InvalidCount(3), range(3)):
            self.assertIs(value in times, False)
        self.assertIs(True in Times(1), False)
        self.assertIs(False in Times(0), False)

    def test_ints_of_other_classes(self):
        times = Times(Whole.TWO, Whole.FIVE, period=Whole.FIVE, marks=(Whole.TWO,))
        self.assertIs(Whole.TWO in times, False)
        self.assertIs(Whole.FIVE in times, True)
        self.assertEqual(repr(times), "Times(2, 5, period=5, marks=(2,))")
        for told in (times.period, *times.marks, *times.numbers, times.first):
            self.assertIs(type(told), int)


class ToldTest(unittest.TestCase):
    def test_small_sets(self):
        for numbers, period, marks in small_sets():
            times = Times(*numbers, period=period, marks=marks)
            wanted = told(lambda k: member(k, numbers, period, marks), lambda k: k % period in marks, period, 30)
            self.assertEqual(parts(times), wanted, (numbers, period, marks))

    def test_kinds(self):
        for times in (Times(), Times(4), Times(4, period=6, marks=(1, 4))):
            self.assertIs(type(times.period), int)
            self.assertIs(type(times.marks), tuple)
            self.assertIs(type(times.numbers), tuple)

    def test_edges(self):
        self.assertEqual(parts(Times()), ((), 1, ()))
        self.assertEqual(parts(Times(0)), ((0,), 1, ()))
        self.assertEqual(parts(Times(FAR)), ((FAR,), 1, ()))
        self.assertEqual(parts(Times(0, FAR, period=1, marks=(0,))), ((0, FAR), 1, (0,)))
        self.assertEqual(parts(Times(period=1000)), ((), 1, ()))
        self.assertEqual(parts(Times(period=1000, marks=(999,))), ((), 1000, (999,)))
        self.assertEqual(parts(Times(5, period=1000, marks=tuple(range(1000)))), ((5,), 1, (0,)))
        self.assertEqual(parts(Times(period=1000, marks=tuple(range(3, 1000, 8)))), ((), 8, (3,)))
        self.assertEqual(parts(Times(period=12, marks=(0, 4, 6, 10))), ((), 6, (0, 4)))
        self.assertEqual(parts(Times(period=9, marks=(1, 4, 8))), ((), 9, (1, 4, 8)))

    def test_numbers_one_by_one_are_no_marks(self):
        self.assertEqual(parts(Times(*range(0, 100, 2))), (tuple(range(0, 100, 2)), 1, ()))

    def test_what_is_passed_is_kept(self):
        marks = (0, 2)
        Times(1, period=4, marks=marks)
        self.assertEqual(marks, (0, 2))

    def test_nothing_can_be_set(self):
        times = Times(3)
        for name in ("period", "marks", "numbers", "first", "endless", "many"):
            with self.assertRaises(AttributeError):
                setattr(times, name, 1)

    def test_arguments(self):
        for call in (lambda: Times(numbers=(1,)), lambda: Times(1, 2, (0,), 3, kind=1)):
            with self.assertRaises(TypeError):
                call()
        with self.assertRaises(InvalidParts):
            Times(1, 2, (0,))
        self.assertEqual(Times(marks=(1,), period=2), Times(period=2, marks=(1,)))

    def test_all_stands_in_the_class(self):
        for name in ("period", "marks", "numbers", "first", "endless", "many"):
            self.assertIsInstance(vars(Times)[name], property)
        for name in ("__init__", "__contains__", "ascending", "__and__", "__or__", "__sub__", "__eq__", "__bool__",
                     "__repr__"):
            self.assertIn(name, vars(Times))
        self.assertEqual(Times.__module__, "evertreads.times")


class AskedTest(unittest.TestCase):
    def test_small_sets(self):
        for numbers, period, marks in small_sets():
            times = Times(*numbers, period=period, marks=marks)
            row = [k for k in range(40) if member(k, numbers, period, marks)]
            self.assertEqual(times.first, row[0] if row else None)
            self.assertIs(times.endless, len(marks) > 0)
            self.assertEqual(times.many, None if marks else len(row))
            self.assertIs(bool(times), len(row) > 0)
            for count in (0, 1, 2, 5):
                self.assertEqual(list(times.ascending(count)), row[:count], (numbers, period, marks))

    def test_first(self):
        self.assertIsNone(Times().first)
        self.assertEqual(Times(0).first, 0)
        self.assertEqual(Times(FAR).first, FAR)
        self.assertEqual(Times(*range(5000), period=1, marks=(0,)).first, 5000)
        self.assertEqual(Times(3, period=1000, marks=(3, 7)).first, 7)
        self.assertEqual(Times(3, period=1000, marks=(3,)).first, 1003)
        self.assertEqual(Times(2, 3, period=1000, marks=(3,)).first, 2)

    def test_ascending(self):
        self.assertEqual(list(Times(1, 2, 3).ascending(100)), [1, 2, 3])
        self.assertEqual(list(Times(1, 2, 3).ascending(2)), [1, 2])
        self.assertEqual(list(Times().ascending(100)), [])
        self.assertEqual(list(Times(4).ascending(0)), [])
        self.assertEqual(list(Times(5, FAR, period=10, marks=(5, 6)).ascending(3)), [6, 15, 16])
        self.assertEqual(list(Times(period=1000, marks=(0,)).ascending(100)), list(range(0, 100000, 1000)))
        self.assertEqual(list(Times(7, period=3, marks=(2,)).ascending(count=4)), [2, 5, 7, 8])
        self.assertEqual(list(Times(0, FAR).ascending(count=9)), [0, FAR])

    def test_ascending_is_a_generator(self):
        row = Times(period=2, marks=(1,)).ascending(2)
        self.assertIsInstance(row, types.GeneratorType)
        self.assertEqual(next(row), 1)
        self.assertEqual(next(row), 3)
        with self.assertRaises(StopIteration):
            next(row)

    def test_truths(self):
        self.assertIs(bool(Times()), False)
        self.assertIs(bool(Times(period=9)), False)
        self.assertIs(bool(Times(0)), True)
        self.assertIs(bool(Times(period=1000, marks=(999,))), True)
        self.assertIs(Times(period=1000, marks=(999,)).endless, True)
        self.assertIs(Times(FAR).endless, False)

    def test_repr(self):
        self.assertEqual(repr(Times(5, 9, period=8, marks=(1, 3))), "Times(5, 9, period=8, marks=(1, 3))")
        self.assertEqual(repr(Times()), "Times(period=1, marks=())")
        self.assertEqual(repr(Times(3)), "Times(3, period=1, marks=())")
        self.assertEqual(repr(Times(period=8, marks=(1,))), "Times(period=8, marks=(1,))")
        self.assertEqual(repr(Times(FAR, period=4, marks=(0, 2))), f"Times({FAR}, period=2, marks=(0,))")


class EqualTest(unittest.TestCase):
    def test_same_sets(self):
        same = [Times(4, period=12, marks=(1, 4, 7, 10)), Times(4, period=3, marks=(1,)),
                Times(4, period=999, marks=tuple(range(1, 999, 3)))]
        for one in same:
            for other in same:
                self.assertIs(one == other, True)
                self.assertIs(one != other, False)

    def test_other_sets(self):
        others = [Times(), Times(0), Times(FAR), Times(period=1, marks=(0,)), Times(0, period=1, marks=(0,)),
                  Times(period=2, marks=(0,)), Times(period=2, marks=(1,)), Times(period=4, marks=(0,)),
                  Times(0, period=2, marks=(0,)), Times(FAR, period=2, marks=(0,))]
        for at, one in enumerate(others):
            for behind, other in enumerate(others):
                self.assertIs(one == other, at == behind)
                self.assertIs(one != other, at != behind)

    def test_other_values(self):
        for value in (None, 0, 1, True, False, (), (3,), [3], {3}, "", repr(Times(3)), {}, object(), Times, Same()):
            for times in (Times(), Times(3)):
                self.assertIs(times == value, False)
                self.assertIs(times != value, True)


if __name__ == "__main__":
    unittest.main()
