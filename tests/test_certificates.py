"""Certificates that the package makes: what they tell is so, and the checker accepts them."""

import random
import unittest

from evertreads.certificates import certify_meeting, certify_pair, certify_square
from evertreads.checker import accepts
from evertreads.errors import InvalidSquare, NotAWalker
from evertreads.walkers import Walker
from tests import plain_facts
from tests.plain_facts import told_of
from tests.plain_ground import grounds, random_rows
from tests.plain_walk import ROWS
from tests.wrong import FAR, NO_SQUARES, NO_WALKERS, RefusingTest


def integers_in(value):
    if isinstance(value, tuple):
        return [number for part in value for number in integers_in(part)]
    return [value] if isinstance(value, int) else []


def walkers(many, seed, reach=9):
    draw = random.Random(seed)
    return [Walker(draw.choice(ROWS), (draw.randint(-reach, reach), draw.randint(-reach, reach)), draw.choice("NESW"))
            for _ in range(many)]


def changed(walker):
    """The walker moved, turned, mirrored, and with its row written twice or in some other way."""
    yield from (walker.moved(7, -11), walker.turned(), walker.mirrored(), walker.turned().mirrored().moved(-3, 2))
    orders = walker.row.split(" ")
    if len(orders) <= 4:
        yield Walker(f"{walker.row} {walker.row}", walker.start, walker.way)
    if len(orders) < 8 and orders[0] in "23456789":
        yield Walker(" ".join(["1", str(int(orders[0]) - 1)] + orders[1:]), walker.start, walker.way)


class CertifiedTest(unittest.TestCase):
    def certified(self, pair, claim):
        """The pair is just this claim with a certificate for it, which is given back."""
        self.assertEqual([type(pair), len(pair)], [tuple, 2])
        told, certificate = pair
        self.assertEqual(told, claim)
        self.assertEqual([type(told)] + [type(part) for part in told], [tuple] + [type(part) for part in claim])
        self.assertIs(accepts(told, certificate), True, pair)
        self.assertIs(accepts(claim, certificate), True)
        self.assertTrue(all(len(str(abs(number))) <= 40 for number in integers_in(pair)))
        return certificate


class SquareTest(CertifiedTest):
    def about(self, walker, square):
        """The certificate about the square, which is told and compared."""
        word = certify_square(walker, square)[0][0]
        certificate = self.certified(certify_square(walker, square), (word, told_of(walker), square))
        self.assertIs(word == "treads", plain_facts.treads(told_of(walker), square))
        if word == "treads":
            self.assertIs(type(certificate), int)
        else:
            self.assertLessEqual(len(certificate if word == "shut" else certificate[0]), 10000)
        # no other word is told of this square with any certificate for these
        for other in ("treads", "shut", "open", "free", "stands"):
            if other != word:
                self.assertIs(accepts((other, told_of(walker), square), certificate), False)
        return word

    def test_square_by_square(self):
        draw = random.Random(1)
        seen = {}
        for ground in grounds(ROWS[::2] + tuple(random_rows(31, 25))):
            for square in draw.sample(ground.squares, min(40, len(ground.squares))):
                word = self.about(ground.walker, square)
                seen[word] = seen.get(word, 0) + 1
                shut_in = ground.rooms.get(square) is not None
                self.assertEqual(word, "treads" if square in ground.trodden else "shut" if shut_in else "open")
        self.assertEqual(len(seen), 3)
        self.assertGreater(min(seen.values()), 100)

    def test_changed_walkers(self):
        for walker in walkers(25, 2):
            for other in changed(walker):
                x, y = other.at(2 * other.period)
                for square in [(x + k % 7 - 3, y + k // 7 - 3) for k in range(0, 49, 4)]:
                    self.about(other, square)

    def test_by_hand(self):
        ring, told = Walker("3 R"), ("3 R", (0, 0), "N")
        inside = ((1, 1), (1, 2), (2, 1), (2, 2))
        self.assertEqual(self.certified(certify_square(ring, (0, 3)), ("treads", told, (0, 3))) % 12, 3)
        self.assertEqual(self.certified(certify_square(ring, (1, 2)), ("shut", told, (1, 2))), inside)
        squares, way = self.certified(certify_square(ring, (-1, 2)), ("open", told, (-1, 2)))
        self.assertEqual([squares[0], way in tuple("NESW")], [(-1, 2), True])
        self.assertEqual(certify_square(walker=ring, square=(1, 1)), certify_square(square=(1, 1), walker=ring))

    def test_far(self):
        up = Walker("1", (0, -FAR))
        self.assertEqual(self.certified(certify_square(up, (0, FAR)), ("treads", told_of(up), (0, FAR))), 2 * FAR)
        slow = Walker("9 R 9 9 9 L 9 8", (-FAR, -FAR), "E")
        self.assertGreater(slow.period, 50)
        for walker in (up, slow, Walker("9 B 8 B 1 B 1 B", (-FAR, FAR), "E"), Walker("4 L 2 L 2 L 2 L", (-FAR, 5), "E"),
                       Walker("9 R 5 R 3 R 5 R", (FAR, -FAR)), Walker("9 L 8 L 7 L 9 L", (FAR, FAR), "S")):
            for x in (-FAR, -FAR + 1, -1, 0, 2, FAR - 1, FAR):
                for y in (-FAR, 0, 5, 6, 7, FAR - 1, FAR):
                    pair = certify_square(walker, (x, y))
                    self.certified(pair, (pair[0][0], told_of(walker), (x, y)))

    def test_large_chambers(self):
        for row in ("9 9 9 9 9 9 9 R", "9 9 9 9 9 9 R", "9 9 9 9 9 9 9 L"):
            for start in ((0, 0), (FAR, FAR), (-FAR, FAR)):
                walker = Walker(row, start, "E")
                side = walker.period // 4
                x, y = walker.at(2 * side)
                square = (start[0] + x) // 2, (start[1] + y) // 2
                if max(map(abs, square)) <= FAR:
                    room = self.certified(certify_square(walker, square), ("shut", told_of(walker), square))
                    self.assertEqual(len(room), (side - 1) ** 2)

    def test_long_ways_out(self):
        for row, square in (("4 R 9 R 9 R 7 R", (8, 1)), ("5 R 3 R 7 R 9 R", (1, 4)), ("5 R 8 R 9 R 5 R", (7, 4)),
                            ("2 R 4 B 3 L 9 R", (8, -1))):
            walker = Walker(row)
            squares, _ = self.certified(certify_square(walker, square), ("open", told_of(walker), square))
            self.assertGreater(len(squares), 3)


class MeetingTest(CertifiedTest):
    def about(self, one, other):
        first = plain_facts.meets_first(told_of(one), told_of(other))
        if first is None:
            self.assertEqual(self.certified(certify_meeting(one, other), ("never", told_of(one), told_of(other))), ())
        elif first > FAR:
            self.assertIsNone(certify_meeting(one, other))
        else:
            claim = ("meet", told_of(one), told_of(other), first)
            self.assertEqual(self.certified(certify_meeting(one, other), claim), ())
        return first

    def test_any_two(self):
        found = [self.about(one, other) for one, other in zip(walkers(300, 3, 2), walkers(300, 4, 2))]
        self.assertGreater(len([first for first in found if first is None]), 20)
        self.assertGreater(len([first for first in found if first]), 20)

    def test_changed_walkers(self):
        for one, other in zip(walkers(15, 5, 4), walkers(15, 6, 4)):
            for a, b in zip(changed(one), changed(other)):
                self.about(a, b)
                self.about(b, one)
                self.assertEqual(self.about(a, a), 0)

    def test_late(self):
        up = Walker("1", (0, -FAR))
        # they meet after twice as many steps as it is from the middle, the last time that is one
        for y, first in ((FAR, FAR), (FAR - 2, FAR - 1), (FAR - 1, None)):
            down = Walker("1", (0, y), "S")
            self.assertEqual(plain_facts.meets_first(told_of(up), told_of(down)), first)
            self.about(up, down)
            self.about(down, up)
        aside = Walker("1", (-FAR, 0), "E")
        self.about(up, aside)
        # one that comes nearer by two squares in three steps
        slow, fast = Walker("2 B 1 B"), Walker("1", (0, -FAR))
        self.assertGreater(self.about(slow, fast), FAR)
        self.assertIsNone(certify_meeting(walker=fast, other=slow))
        seen = {}
        for y in range(-2 * FAR // 3 - 9, -2 * FAR // 3 + 9):
            first = self.about(slow, Walker("1", (0, y)))
            told = "never" if first is None else first <= FAR
            seen[told] = seen.get(told, 0) + 1
        self.assertEqual([set(seen), seen["never"]], [{"never", True, False}, 9])


class PairTest(CertifiedTest):
    def about(self, one, other):
        a, b = told_of(one), told_of(other)
        if plain_facts.apart(a, b):
            self.assertEqual(self.certified(certify_pair(one, other), ("apart", a, b)), ())
            return "apart"
        if plain_facts.within(a, b):
            self.assertEqual(self.certified(certify_pair(one, other), ("within", a, b)), ())
            return "within"
        self.assertIsNone(certify_pair(one, other))
        return None

    def test_any_two(self):
        draw = random.Random(7)
        seen = {}
        for one, other in zip(walkers(110, 8, 4), walkers(110, 9, 4)):
            later = Walker(one.row, one.at(draw.randint(0, 2) * one.period), one.way)
            for a, b in ((one, other), (later, one), (one, later)):
                word = self.about(a, b)
                seen[word] = seen.get(word, 0) + 1
        self.assertEqual(set(seen), {"apart", "within", None})
        self.assertGreater(min(seen.values()), 30)

    def test_changed_walkers(self):
        for one, other in zip(walkers(10, 10, 3), walkers(10, 11, 3)):
            for a, b in zip(changed(one), changed(other)):
                self.about(a, b)
                self.assertEqual(self.about(a, a), "within")
        for row in ("2 R", "1", "3 R 3 L", "1 R 2 L"):
            once, twice = Walker(row, (4, 4), "W"), Walker(f"{row} {row}", (4, 4), "W")
            self.assertEqual([self.about(once, twice), self.about(twice, once)], ["within", "within"])

    def test_far(self):
        line, up = Walker("1", (-FAR, 0), "E"), Walker("1", (FAR, -FAR))
        self.assertIsNone(certify_pair(line, up))
        self.certified(certify_pair(line, Walker("1", (FAR, 1))), ("apart", told_of(line), ("1", (FAR, 1), "N")))
        self.certified(certify_pair(Walker("1", (FAR, 0), "E"), line), ("within", ("1", (FAR, 0), "E"), told_of(line)))
        self.assertIsNone(certify_pair(walker=line, other=Walker("1", (FAR, 0), "E")))
        self.assertIsNone(certify_pair(other=Walker("1", (FAR, 0), "E"), walker=line))


class RefusedTest(RefusingTest):
    def test_walkers(self):
        walker = Walker("2 R")
        for value in NO_WALKERS:
            self.refused(NotAWalker, value, certify_square, value, (0, 0))
            self.refused(NotAWalker, value, certify_square, value, None)
            self.refused(NotAWalker, value, certify_square, square=5, walker=value)
            for call in (certify_meeting, certify_pair):
                self.refused(NotAWalker, value, call, value, walker)
                self.refused(NotAWalker, value, call, walker, value)
                self.refused(NotAWalker, value, call, value, 0)
                self.refused(NotAWalker, value, call, other=value, walker=walker)
                self.refused(NotAWalker, value, call, other=(), walker=value)

    def test_squares(self):
        for walker in (Walker("2 R"), Walker("1")):
            for value in NO_SQUARES:
                self.refused(InvalidSquare, value, certify_square, walker, value)
                self.refused(InvalidSquare, value, certify_square, square=value, walker=walker)

    def test_defined_where_they_are_listed(self):
        for call in (certify_square, certify_meeting, certify_pair):
            self.assertEqual(call.__module__, "evertreads.certificates")
        self.assertEqual(accepts.__module__, "evertreads.checker")


if __name__ == "__main__":
    unittest.main()
