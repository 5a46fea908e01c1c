"""Values that are wrong for arguments, and how an error is looked for."""

import unittest

from evertreads.errors import InvalidCount
from evertreads.squares import Squares
from evertreads.times import Times

FAR = 10 ** 30


class Same:
    """Equal to everything, and so to everything that is right."""

    def __eq__(self, other):
        return True


NO_INTEGERS = (True, False, None, "", "1", b"1", (), (1,), [], [1], {}, {1: 1}, {1}, object(), int, len, range(2),
               Same(), Times(1), Squares((0, 0)), InvalidCount(1))
NO_PAIRS = (True, False, None, 0, 5, "", "00", "0,0", b"00", (), (1,), (1, 2, 3), [], [0, 0], {}, {0: 0}, {0, 1},
            object(), tuple, range(2), Same(), Times(), Squares(), Squares((0, 0)), (True, 0), (0, False), (None, 0),
            (0, "0"), ([0], 0), (0, [0]), ((0, 0), 0), (0, {}), (0, Same()), (Same(), Same()))
TOO_FAR = ((FAR + 1, 0), (0, FAR + 1), (-FAR - 1, 0), (0, -FAR - 1), (10 ** 79, 10 ** 79))
NO_SQUARES = NO_PAIRS + TOO_FAR + ((0, 0, 1, 0),)
NO_WALKERS = (True, None, 0, "", "2 R", b"2 R", ("2 R", (0, 0), "N"), [], {}, object(), Same(), Times(), Squares())

NO_NAMES = (True, False, None, 0, 1, "", "A", "aB", "abcdefghi", "a b", " a", "a ", "a1", "1", "a-b", "a.", "a\n", "\n",
            "\u00e4", "\u0430", "\u00df", "`", "{", "a\x00", b"a", ("a",), ("a", "b"), (), ["a"], [], {}, {"a": 1},
            {"a"}, object(), str, len, range(2), slice(0, 1), Same(), Times(), Squares(), InvalidCount("a"))


class RefusingTest(unittest.TestCase):
    def refused(self, kind, value, call, *args, **more):
        """The call raises the error with just this value as what was given."""
        with self.assertRaises(kind) as caught:
            call(*args, **more)
        self.assertIs(type(caught.exception), kind)
        self.assertIs(caught.exception.given, value)

    def refused_at(self, kind, index, call, *args, **more):
        """The call raises the error with this index."""
        with self.assertRaises(kind) as caught:
            call(*args, **more)
        self.assertIs(type(caught.exception), kind)
        self.assertIs(type(caught.exception.index), int)
        self.assertEqual(caught.exception.index, index)
