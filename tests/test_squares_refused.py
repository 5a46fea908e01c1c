"""What sets of squares refuse, and in which order."""

import unittest

from evertreads.errors import InvalidCount, InvalidParts, InvalidSquare
from evertreads.squares import Squares
from tests.wrong import FAR, NO_INTEGERS, NO_PAIRS, NO_SQUARES, TOO_FAR, RefusingTest, Same


class PartsTest(unittest.TestCase):
    def wrong(self, index, *parts):
        with self.assertRaises(InvalidParts) as caught:
            Squares(*parts)
        self.assertIs(type(caught.exception), InvalidParts)
        self.assertIs(type(caught.exception.index), int)
        self.assertEqual(caught.exception.index, index)

    def everywhere(self, part):
        """The part is wrong wherever it stands."""
        self.wrong(0, part)
        self.wrong(1, (0, 0), part)
        self.wrong(1, (0, 0, 1, 0), part, (5, 5), part)
        self.wrong(19, *((k, 0) for k in range(19)), part)
        self.wrong(2, *((k, 0) for k in range(2)), part, *((k, 0) for k in range(40)))

    def test_no_squares(self):
        for value in NO_PAIRS + TOO_FAR:
            self.everywhere(value)

    def test_rays_that_begin_wrong(self):
        for value in NO_PAIRS + TOO_FAR:
            if isinstance(value, tuple) and len(value) == 2:
                self.everywhere(value + (1, 0))
        for value in NO_INTEGERS + (FAR + 1, -FAR - 1):
            self.everywhere((value, 0, 1, 1))
            self.everywhere((0, value, 1, 1))

    def test_moves(self):
        self.everywhere((0, 0, 0, 0))
        self.everywhere((7, -7, 0, 0))
        for value in NO_INTEGERS + (1001, -1001, FAR, 10 ** 79):
            self.everywhere((0, 0, value, 1))
            self.everywhere((0, 0, 1, value))
        for part in ((0, 0, False, 1), (0, 0, 1, False), (0, 0, 0, True), (0, 0, True, 0), (0, 0, Same(), Same())):
            self.everywhere(part)
        for dx in (-1000, -999, 0, 1000):
            for dy in (-1000, 1, 1000):
                self.assertIs(Squares((0, 0, dx, dy)).endless, True)

    def test_other_lengths_and_lists(self):
        for part in ((0, 0, 1), (0, 0, 1, 0, 0), ((0, 0), (1, 0)), ((0, 0), 1, 0), [0, 0, 1, 0], (0, 0, (1, 0)),
                     "0010", b"0010", range(4)):
            self.everywhere(part)

    def test_more_than_twenty(self):
        twenty = [(k, 0) for k in range(19)] + [(0, 0, 1, 1)]
        self.assertIs((3, 3) in Squares(*twenty), True)
        for more in ((5, 5), (0, 0, 1, 0), None, (0, 0)):
            self.wrong(20, *twenty, more)
            self.wrong(20, *twenty, more, None, (7, 7))
        self.wrong(20, *[(0, 0)] * 21)
        self.wrong(20, *[(0, 0, 1, 0)] * 300)
        self.wrong(4, *twenty[:4], None, *twenty)

    def test_at_the_limits(self):
        for part in ((FAR, FAR), (-FAR, -FAR), (FAR, -FAR, 1000, -1000), (-FAR, FAR, 0, 1), (0, 0, -1, 0)):
            self.assertIs(part[:2] in Squares(part), True)


class NearTest(RefusingTest):
    def test_squares(self):
        for squares in (Squares(), Squares((0, 0, 1, 0))):
            for value in NO_SQUARES:
                self.refused(InvalidSquare, value, squares.near, value, 1)
                self.refused(InvalidSquare, value, squares.near, square=value, reach=1)
                self.refused(InvalidSquare, value, squares.near, value, None)

    def test_reaches(self):
        for squares in (Squares(), Squares((0, 0, 1, 0))):
            for value in NO_INTEGERS + (-1, 51, FAR, -FAR):
                self.refused(InvalidCount, value, squares.near, (0, 0), value)
                self.refused(InvalidCount, value, squares.near, square=(0, 0), reach=value)
            for reach in (0, 50):
                self.assertIs(type(squares.near((0, 0), reach)), tuple)

    def test_arguments_that_lack(self):
        for call in (lambda: Squares().near((0, 0)), lambda: Squares().near(), lambda: Squares().near((0, 0), 1, 1)):
            with self.assertRaises(TypeError):
                call()


if __name__ == "__main__":
    unittest.main()
