"""The examples of the document."""

import unittest

from evertreads.times import Times


class TimesTest(unittest.TestCase):
    def test_example(self):
        odd, some = Times(period=2, marks=(1,)), Times(2, 3, 10 ** 20)
        told = [odd & some, (odd | some).first, 4 in odd | some, some.many, list((odd - some).ascending(3)),
                Times(period=4, marks=(0, 2)) == Times(period=2, marks=(0,)), odd.endless]
        self.assertEqual(repr(told), "[Times(3, period=1, marks=()), 1, False, 3, [1, 5, 7], True, True]")


if __name__ == "__main__":
    unittest.main()
