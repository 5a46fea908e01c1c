"""Walkers moved, turned and mirrored: what is told of them is what was told, so changed."""

import unittest

from evertreads.meeting import same_walk
from evertreads.shut import chamber, shut, way_out
from evertreads.squares import Squares
from evertreads.walkers import Walker
from tests.plain_walk import ROWS
from tests.wrong import FAR

RIGHT = {"N": "E", "E": "S", "S": "W", "W": "N"}
ASIDE = {"N": "N", "E": "W", "S": "S", "W": "E"}
# how squares and ways are changed, and the walker so changed
CHANGES = (
    (lambda x, y: (x + 7, y - 3), lambda way: way, lambda walker: walker.moved(7, -3)),
    (lambda x, y: (y, -x), RIGHT.get, lambda walker: walker.turned()),
    (lambda x, y: (-x, y), ASIDE.get, lambda walker: walker.mirrored()),
    (lambda x, y: (-x, -y), lambda way: RIGHT[RIGHT[way]], lambda walker: walker.turned().turned()),
    (lambda x, y: (y + 1, x), lambda way: RIGHT[ASIDE[way]], lambda walker: walker.mirrored().turned().moved(1, 0)),
)


def walkers():
    return [Walker(row, (at - 9, 5 - 2 * at), "NESW"[at % 4]) for at, row in enumerate(ROWS)]


def about(walker, reach=9):
    x, y = walker.at(walker.period)
    return [(p, q) for p in range(x - reach, x + reach + 1, 2) for q in range(y - reach, y + reach + 1)]


class ToldTest(unittest.TestCase):
    def test_texts(self):
        comb = Walker("4 L 2 L B R 2", (3, -5), "E")
        self.assertEqual([str(comb.moved(-4, 5)), str(comb.turned()), str(comb.mirrored())],
                         ["4 L 2 L B R 2 from -1,0 to E", "4 L 2 L B R 2 from -5,-3 to S",
                          "4 R 2 R B L 2 from -3,-5 to W"])
        self.assertEqual([str(Walker("1", way=way).mirrored()) for way in "NESW"],
                         [f"1 from 0,0 to {way}" for way in "NWSE"])
        self.assertEqual([str(Walker("1", way=way).turned()) for way in "NESW"],
                         [f"1 from 0,0 to {way}" for way in "ESWN"])
        self.assertEqual(comb.moved(dx=1, dy=0).start, comb.moved(dy=0, dx=1).start)
        for changed in (comb.moved(0, 0), comb.turned(), comb.mirrored()):
            self.assertIs(type(changed), Walker)
            self.assertIsNot(changed, comb)
        self.assertEqual(str(comb), "4 L 2 L B R 2 from 3,-5 to E")

    def test_round_and_back(self):
        for walker in walkers():
            for same in (walker.turned().turned().turned().turned(), walker.mirrored().mirrored(),
                         walker.moved(5, 6).moved(-5, -6), walker.moved(FAR, -FAR).moved(-FAR, FAR)):
                self.assertEqual(str(same), str(walker))
                self.assertIs(same_walk(walker, same), True)

    def test_where_they_stand(self):
        for walker in walkers():
            for square, way, change in CHANGES:
                changed = change(walker)
                self.assertEqual(changed.start, square(*walker.start))
                self.assertEqual(changed.way, way(walker.way))
                for time in (0, 1, 5, 17, 60, 333, FAR - 1, FAR):
                    self.assertEqual(changed.at(time), square(*walker.at(time)))
                    self.assertEqual(changed.goes(time), way(walker.goes(time)))
                self.assertEqual([changed.period, changed.closed], [walker.period, walker.closed])

    def test_what_they_tread(self):
        for walker in walkers()[::2]:
            for square, _, change in CHANGES:
                changed = change(walker)
                pairs = [(walker.squares(), changed.squares()), (shut(walker), shut(changed))]
                pairs += [(walker.trodden(count), changed.trodden(count)) for count in (1, 2, 3)]
                for one, other in pairs:
                    self.assertEqual([one.endless, one.many], [other.endless, other.many])
                    for spot in about(walker):
                        self.assertIs(spot in one, square(*spot) in other)
                for spot in about(walker):
                    self.assertEqual(walker.times(spot), changed.times(square(*spot)))

    def test_what_they_shut_in(self):
        for walker in walkers()[::2]:
            for square, _, change in CHANGES:
                changed = change(walker)
                for spot in about(walker, 6)[::3]:
                    one, other = chamber(walker, spot), chamber(changed, square(*spot))
                    self.assertEqual(None if one is None else tuple(sorted(square(*inner) for inner in one)), other)
                    one, other = way_out(walker, spot), way_out(changed, square(*spot))
                    self.assertEqual(one is None, other is None)
                    if one is not None:
                        self.assertEqual(len(one[0]), len(other[0]))


class FarTest(unittest.TestCase):
    def test_starts_beyond_the_greatest(self):
        for row in ("2 R", "4 L 2 L 2 L 2 L", "9 R 5 R 3 R 5 R", "1", "3 R 3 L"):
            near = Walker(row, (0, 0), "E")
            far = near.moved(FAR, -FAR).moved(FAR, -FAR).moved(7, 0)
            x, y = 2 * FAR + 7, -2 * FAR
            self.assertEqual(far.start, (x, y))
            self.assertEqual(str(far), f"{row} from {x},{y} to E")
            for time in (0, 1, 8, 100, FAR):
                p, q = near.at(time)
                self.assertEqual(far.at(time), (p + x, q + y))
                self.assertEqual(far.goes(time), near.goes(time))
                self.assertIs((p + x, q + y) in far.squares(), True)
            for count in (1, 2, 3):
                self.assertEqual(far.trodden(count).many, near.trodden(count).many)
            self.assertEqual(str(far.turned()), f"{row} from {y},{-x} to S")
            self.assertIs(far.squares().endless, not far.closed)
            self.assertEqual(shut(far).many, shut(near).many)
            back = far.moved(-FAR, FAR).moved(-FAR, FAR).moved(-7, 0)
            self.assertEqual(back.squares(), near.squares())
            self.assertEqual(shut(back), shut(near))

    def test_coming_back_into_the_grid(self):
        far = Walker("1", way="W").moved(FAR, 0).moved(FAR, 0)
        self.assertEqual(far.times((FAR, 0)).numbers, (FAR,))
        self.assertEqual(far.times((-FAR, 0)).numbers, (3 * FAR,))
        self.assertEqual(far.squares(), Squares((FAR, 0, -1, 0)) | far.squares())
        self.assertEqual((far.squares() - Squares((FAR, 0, -1, 0))).many, FAR)
        self.assertEqual(far.at(FAR), (FAR, 0))
        self.assertIs(chamber(far, (FAR, 0)), None)
        self.assertEqual(way_out(far, (FAR, 1)), (((FAR, 1),), "N"))
        self.assertEqual(way_out(far, (FAR, -1)), (((FAR, -1),), "E"))


if __name__ == "__main__":
    unittest.main()
