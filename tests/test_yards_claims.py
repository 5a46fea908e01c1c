"""Claims of yards: each one stands exactly if it is so for all times and all squares of the endless grid."""

import random
import unittest

from evertreads.errors import Broken
from evertreads.walkers import Walker
from evertreads.yards import Yard
from tests import plain_facts
from tests.plain_ground import grounds, random_rows
from tests.plain_walk import ROWS
from tests.wrong import FAR

PLAIN = {"apart": plain_facts.apart, "never": plain_facts.never, "within": plain_facts.within}


def yard_of(**walkers):
    yard = Yard()
    for name, walker in walkers.items():
        yard[name] = walker
    return yard


def stands(yard, claim):
    """Whether the yard lets the claim be made; it is lifted again."""
    before = yard.claims
    try:
        yard.claim(claim)
    except Broken as error:
        assert error.index == len(before) and yard.claims == before
        return False
    assert yard.claims == before + (claim,)
    yard.undo()
    return True


def drawn(draw, reach=9):
    return draw.choice(ROWS), (draw.randint(-reach, reach), draw.randint(-reach, reach)), draw.choice("NESW")


class PairsTest(unittest.TestCase):
    def compared(self, a, b):
        yard = yard_of(a=Walker(*a), b=Walker(*b))
        for word, plain in PLAIN.items():
            for names, told in ((("a", "b"), (a, b)), (("b", "a"), (b, a))):
                self.assertIs(stands(yard, (word, *names)), plain(*told), (word, told))
        return yard

    def test_any_two(self):
        draw = random.Random(1)
        for _ in range(150):
            self.compared(drawn(draw), drawn(draw))

    def test_one_that_begins_later(self):
        draw = random.Random(2)
        for _ in range(60):
            row, start, way = told = drawn(draw)
            walker = Walker(row, start, way)
            square = walker.at(draw.randint(1, 3) * walker.period)
            self.compared(told, (row, square, way))
            self.compared(told, (row, (start[0] + 1, start[1]), way))

    def test_beside_itself(self):
        for row in ROWS:
            walker = Walker(row, (-3, 3), "S")
            yard = yard_of(a=walker, b=walker, c=Walker(row, (-3, 3), "S"))
            for names in (("a", "a"), ("a", "b"), ("b", "c"), ("c", "a")):
                self.assertEqual([stands(yard, (word, *names)) for word in ("apart", "never", "within")],
                                 [False, False, True])

    def test_by_hand(self):
        for one, other, told in (
                (("1",), ("1", (1, 0)), (True, True, False)), (("1",), ("1", (0, 1)), (False, True, False)),
                (("1", (0, 1)), ("1",), (False, True, True)), (("2",), ("1", (0, -4)), (False, True, True)),
                (("2 R",), ("1 R",), (False, False, False)), (("1 B",), ("2 R",), (False, False, True)),
                (("2 R",), ("2 L", (0, 0), "E"), (False, False, True)),
                (("2 R",), ("2 R", (1, 1)), (False, True, False)), (("1",), ("1", (5, 5), "W"), (False, False, False)),
                (("1",), ("1", (5, 4), "W"), (False, True, False)), (("1",), ("1", (5, -1), "W"), (True, True, False)),
                (("3 B 1 B",), ("1",), (False, False, True)),
                (("3 R 3 L",), ("3 L 3 R", (3, 3), "E"), (False, True, False))):
            yard = yard_of(a=Walker(*one), b=Walker(*other))
            self.assertEqual(tuple(stands(yard, (word, "a", "b")) for word in ("apart", "never", "within")), told,
                             (one, other))


class SquaresTest(unittest.TestCase):
    def test_square_by_square(self):
        draw = random.Random(3)
        for ground in grounds(ROWS[::2] + tuple(random_rows(11, 15))):
            yard = yard_of(walker=ground.walker)
            for square in draw.sample(ground.squares, min(60, len(ground.squares))):
                trodden, room = square in ground.trodden, ground.rooms.get(square)
                self.assertIs(stands(yard, ("treads", "walker", square)), trodden)
                self.assertIs(stands(yard, ("free", "walker", square)), not trodden)
                self.assertIs(stands(yard, ("shut", "walker", square)), room is not None)

    def test_late_treads(self):
        comb = Walker("4 L 2 L 2 L 2 L", way="E")
        for x in (5, 6, 10 ** 12, 10 ** 12 + 1, FAR - 1, FAR, -1, -FAR):
            yard = yard_of(comb=comb)
            self.assertIs(stands(yard, ("treads", "comb", (x, 0))), x >= 0)
            self.assertIs(stands(yard, ("free", "comb", (x, 0))), x < 0)
            self.assertIs(stands(yard, ("treads", "comb", (x, 1))), x >= 2 and x % 2 == 0)
            self.assertIs(stands(yard, ("shut", "comb", (x, 1))), x >= 3 and x % 2 == 1)
            self.assertIs(stands(yard, ("shut", "comb", (x, 3))), False)


class FarTest(unittest.TestCase):
    def test_from_far(self):
        yard = yard_of(line=Walker("1", (-FAR, 0), "E"), up=Walker("1", (FAR, -FAR)), down=Walker("1", (FAR, -1), "S"),
                       upper=Walker("1", (FAR, 1 - FAR)))
        for claim, told in ((("apart", "line", "up"), False), (("apart", "up", "line"), False),
                            (("apart", "line", "down"), True), (("never", "line", "up"), True),
                            (("never", "line", "upper"), True), (("within", "upper", "up"), True),
                            (("within", "up", "upper"), False), (("apart", "down", "up"), False),
                            (("treads", "line", (FAR, 0)), True), (("free", "line", (-FAR, 1)), True),
                            (("treads", "up", (FAR, FAR)), True), (("shut", "up", (FAR, FAR)), False)):
            self.assertIs(stands(yard, claim), told, claim)

    def test_met_beyond_the_greatest_square(self):
        up = Walker("1", (0, -FAR)).moved(0, -FAR)
        # both come to (0, 3 * FAR), and this one later by the distance
        later = Walker("1", way="E").moved(0, FAR).moved(0, FAR).moved(-FAR, FAR)
        aside = later.moved(-FAR, 0).moved(-FAR, 0)
        self.assertEqual([up.start, later.start, aside.start], [(0, -2 * FAR), (-FAR, 3 * FAR), (-3 * FAR, 3 * FAR)])
        meets = aside.moved(-FAR, 0).moved(-FAR, 0)
        yard = yard_of(up=up, aside=aside, meets=meets, misses=meets.moved(1, 0), longer=up.moved(0, -FAR))
        for claim, told in ((("apart", "up", "aside"), False), (("never", "up", "aside"), True),
                            (("never", "up", "meets"), False), (("never", "meets", "up"), False),
                            (("never", "up", "misses"), True), (("within", "up", "longer"), True),
                            (("within", "longer", "up"), False), (("within", "misses", "meets"), True)):
            self.assertIs(stands(yard, claim), told, claim)

    def test_remainders_far_away(self):
        draw = random.Random(4)
        for _ in range(40):
            a, b = drawn(draw), drawn(draw)
            x, y = draw.choice((FAR, 0, -FAR)), draw.choice((FAR, -FAR))
            moved = [Walker(row, (p, q), way).moved(x, y) for row, (p, q), way in (a, b)]
            yard = yard_of(a=moved[0], b=moved[1])
            for word, plain in PLAIN.items():
                self.assertIs(stands(yard, (word, "a", "b")), plain(a, b), (word, a, b))
        # the teeth of both combs are on every second square of one line, from its far ends on
        teeth = "1 L 1 B 1 L 1"
        one, other = Walker(teeth, (-FAR, 0), "E"), Walker(teeth, (FAR, 2), "W")
        self.assertEqual([one.drift, other.drift], [(2, 0), (-2, 0)])
        for aside in (0, -1, -2, -FAR, -FAR - 1):
            yard = yard_of(a=one, b=other.moved(-1, 0).moved(aside + 1, 0))
            self.assertIs(stands(yard, ("apart", "a", "b")), aside % 2 == 1)
            self.assertIs(stands(yard, ("apart", "b", "a")), aside % 2 == 1)

    def test_at_the_ends_of_the_grid(self):
        for x in (FAR, -FAR):
            for y in (FAR, -FAR):
                yard = yard_of(a=Walker("9 R", (x, y)), b=Walker("9 L", (x, y)), c=Walker("9", (x, -y)),
                               d=Walker("2 R", (x, y)).moved(-1, -1))
                for claim, told in ((("treads", "a", (x, y)), True), (("shut", "a", (x, y)), False),
                                    (("free", "a", (-x, y)), True), (("apart", "a", "b"), False),
                                    (("apart", "a", "c"), y < 0), (("within", "a", "a"), True),
                                    (("shut", "d", (x, y)), True), (("never", "a", "c"), True)):
                    self.assertIs(stands(yard, claim), told, (claim, x, y))


class KeptTest(unittest.TestCase):
    """Whoever is set is held against all claims that name the name, in the first place and in the second one."""

    def test_either_name(self):
        draw = random.Random(5)
        seen = {True: 0, False: 0}
        for _ in range(80):
            told = {name: drawn(draw, 5) for name in "abc"}
            yard = yard_of(**{name: Walker(*told[name]) for name in "abc"})
            claims = []
            for _ in range(12):
                word, one, other = draw.choice(list(PLAIN)), draw.choice("abc"), draw.choice("abc")
                if PLAIN[word](told[one], told[other]):
                    yard.claim((word, one, other))
                    claims.append((word, one, other))
            for _ in range(4):
                name, new = draw.choice("abc"), drawn(draw, 5)
                now = {**told, name: new}
                failing = [at for at, (word, one, other) in enumerate(claims) if not PLAIN[word](now[one], now[other])]
                before, walker = yard.changes, Walker(*new)
                seen[not failing] += 1
                if failing:
                    with self.assertRaises(Broken) as caught:
                        yard[name] = walker
                    self.assertEqual([caught.exception.index, yard.changes], [failing[0], before])
                    self.assertIsNot(yard[name], walker)
                else:
                    yard[name] = walker
                    told = now
                    self.assertIs(yard[name], walker)
        self.assertGreater(min(seen.values()), 30)

    def test_squares(self):
        yard = yard_of(a=Walker("3 R"), b=Walker("1"))
        for claim in (("shut", "a", (1, 1)), ("treads", "a", (0, 3)), ("free", "b", (0, -1))):
            yard.claim(claim)
        for name, walker, index in (("a", Walker("1"), 0), ("a", Walker("2 R"), 1), ("a", Walker("3 R", (0, 1)), 0),
                                    ("b", Walker("1", (0, -1)), 2), ("b", Walker("1", (0, 5), "S"), 2),
                                    ("a", Walker("9 R", (-1, -1)), 1)):
            with self.assertRaises(Broken) as caught:
                yard[name] = walker
            self.assertEqual(caught.exception.index, index)
        for name, walker in (("a", Walker("3 3 R")), ("a", Walker("3 L", (3, 0))), ("b", Walker("1", (0, 7)))):
            yard[name] = walker
            self.assertIs(yard[name], walker)


if __name__ == "__main__":
    unittest.main()
