"""What sets of times refuse, and in which order."""

import unittest

from evertreads.errors import InvalidCount, InvalidMarks, InvalidParts, InvalidPeriod
from evertreads.times import Times

NO_INTEGERS = (True, False, None, "", "1", b"1", (), (1,), [], [1], {}, {1: 1}, {1}, object(), int, len,
               range(2), Times(), Times(1), InvalidCount(1))
TOO_SMALL_OR_GREAT = (-1, -10 ** 30, 10 ** 30 + 1, 10 ** 79)


class RefusedTest(unittest.TestCase):
    def refused(self, kind, attribute, value, call):
        with self.assertRaises(kind) as caught:
            call()
        self.assertIs(type(caught.exception), kind)
        self.assertIs(getattr(caught.exception, attribute), value)

    def wrong_parts(self, index, *numbers, **more):
        with self.assertRaises(InvalidParts) as caught:
            Times(*numbers, **more)
        self.assertIs(type(caught.exception.index), int)
        self.assertEqual(caught.exception.index, index)

    def test_numbers_that_are_no_times(self):
        for value in NO_INTEGERS + TOO_SMALL_OR_GREAT:
            self.wrong_parts(0, value)
            self.wrong_parts(2, 3, 5, value)
            self.wrong_parts(1, 3, value, 9)
            self.wrong_parts(1, 3, value, 2, value)

    def test_numbers_that_do_not_ascend(self):
        self.wrong_parts(1, 3, 3)
        self.wrong_parts(1, 0, 0)
        self.wrong_parts(1, 3, 2)
        self.wrong_parts(3, 1, 2, 3, 3, 4)
        self.wrong_parts(2, 1, 5, 4, 6)
        self.wrong_parts(1, 10 ** 30, 10 ** 30)
        self.wrong_parts(2, 1, 2, 0, None)

    def test_numbers_at_the_limits(self):
        self.assertEqual(Times(0, 10 ** 30).numbers, (0, 10 ** 30))

    def test_periods(self):
        for value in NO_INTEGERS + TOO_SMALL_OR_GREAT + (0, 1001):
            self.refused(InvalidPeriod, "given", value, lambda: Times(period=value))
            self.refused(InvalidPeriod, "given", value, lambda: Times(1, 2, period=value, marks=(0,)))
        for value in (1, 2, 999, 1000):
            self.assertEqual(Times(period=value, marks=(value - 1,)).period, value)

    def test_marks_that_are_no_tuples(self):
        for value in (True, False, None, 0, 1, "", "1", b"1", [], [1], {}, {1: 1}, {1}, frozenset(), object(), int,
                      range(2), Times(), Times(1), iter(())):
            self.refused(InvalidMarks, "given", value, lambda: Times(period=8, marks=value))

    def test_marks_that_are_wrong(self):
        for value in NO_INTEGERS + TOO_SMALL_OR_GREAT + (8, 9):
            for marks in ((value,), (0, value), (0, value, 7)):
                self.refused(InvalidMarks, "given", marks, lambda: Times(period=8, marks=marks))
        for marks in ((1, 1), (3, 2), (0, 5, 4), (0, 1, 2, 2), (7, 0), (0, 1, 2, 3, 4, 5, 6, 7, 8)):
            self.refused(InvalidMarks, "given", marks, lambda: Times(period=8, marks=marks))
        one, thousand = (1,), (1000,)
        self.refused(InvalidMarks, "given", one, lambda: Times(marks=one))
        self.refused(InvalidMarks, "given", thousand, lambda: Times(period=1000, marks=thousand))

    def test_marks_at_the_limits(self):
        self.assertEqual(Times(marks=(0,)).marks, (0,))
        self.assertEqual(Times(period=1000, marks=(0, 999)).marks, (0, 999))

    def test_order(self):
        period, marks = "8", [0]
        self.wrong_parts(1, 5, 5, period=period, marks=marks)
        self.wrong_parts(0, True, marks=marks)
        self.wrong_parts(0, True, period=period)
        self.refused(InvalidPeriod, "given", period, lambda: Times(5, period=period, marks=marks))
        self.refused(InvalidPeriod, "given", 0, lambda: Times(period=0, marks=(0, 0)))
        self.refused(InvalidMarks, "given", marks, lambda: Times(5, period=8, marks=marks))

    def test_counts(self):
        for times in (Times(), Times(1), Times(period=3, marks=(1,))):
            for value in NO_INTEGERS + TOO_SMALL_OR_GREAT + (101,):
                self.refused(InvalidCount, "given", value, lambda: next(times.ascending(value)))
                self.refused(InvalidCount, "given", value, lambda: next(times.ascending(count=value)))
            self.assertEqual(list(times.ascending(0)), [])
            self.assertLessEqual(len(list(times.ascending(100))), 100)
        self.assertEqual(len(list(Times(period=3, marks=(1,)).ascending(100))), 100)

    def test_what_is_passed_stays(self):
        marks = [2, 1]
        self.refused(InvalidMarks, "given", marks, lambda: Times(period=4, marks=marks))
        self.assertEqual(marks, [2, 1])


if __name__ == "__main__":
    unittest.main()
