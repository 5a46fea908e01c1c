"""What the checker accepts: just claims with certificates of the nine forms of which what is told is so."""

import random
import unittest

from evertreads.checker import accepts
from evertreads.squares import Squares
from evertreads.times import Times
from evertreads.walkers import Walker
from tests import plain_facts
from tests.plain_facts import told_of
from tests.plain_ground import Ground, grounds, random_rows
from tests.plain_walk import ROWS, beside, is_clear, walk
from tests.wrong import FAR, NO_INTEGERS, NO_SQUARES, NO_WALKERS, Same

RING, LINE, COMB = ("2 R", (0, 0), "N"), ("1", (0, 3), "N"), ("4 L 2 L 2 L 2 L", (0, 0), "E")
# one claim of each form that is so, with a certificate
GOOD = ((("stands", RING, 1, (0, 1)), ()), (("treads", RING, (1, 2)), 3), (("free", RING, (1, 1)), ()),
        (("meet", RING, ("1 1 R", (0, 0), "N"), 1), ()),
        (("never", LINE, RING), ()), (("apart", LINE, RING), ()), (("within", LINE, ("1", (0, 1), "N")), ()),
        (("shut", RING, (1, 1)), ((1, 1),)), (("open", RING, (0, -1)), (((0, -1),), "E")),
        (("shut", ("3 R", (0, 0), "N"), (1, 1)), ((1, 1), (1, 2), (2, 1), (2, 2))))
# one gets out from here only by some squares in their order
HIDDEN = ("open", ("4 R 9 R 9 R 7 R", (0, 0), "N"), (8, 1))
EMPTY = ("stands", "free", "meet", "never", "apart", "within")


def drawn(draw, reach=6):
    return draw.choice(ROWS), (draw.randint(-reach, reach), draw.randint(-reach, reach)), draw.choice("NESW")


def bent(value):
    """The value with one thing in it changed so that it has another form."""
    yield from (None, [value], (value,), Same())
    if isinstance(value, tuple):
        yield from (list(value), value + (None,), value + value[-1:] + (0,), dict(enumerate(value)))
        for at, part in enumerate(value):
            yield value[:at] + value[at + 1:]
            yield value[:at] + (part,) + value[at:]
            for other in bent(part):
                yield value[:at] + (other,) + value[at + 1:]
    elif isinstance(value, int):
        yield from (str(value), b"1", value + 10 ** 40 + 1, -value - 10 ** 40)
        if value in (0, 1):
            yield bool(value)
    else:
        yield from (value + " ", " " + value, value.encode(), "", value + "\n", list(value), value.swapcase() + "x")


class AcceptsTest(unittest.TestCase):
    def told(self, claim, certificate, wanted):
        self.assertIs(accepts(claim, certificate), wanted, (claim, certificate))


class FormsTest(AcceptsTest):
    def good(self):
        """Claims with certificates that are accepted."""
        ground = Ground(*HIDDEN[1])
        front = [(HIDDEN[2],)]
        while not any(is_clear(ground.ends, path[-1], way) for path in front for way in "NESW"):
            front = [path + (spot,) for path in front for spot in beside(path[-1])
                     if spot not in ground.trodden and spot not in path]
        ends = [(path, way) for path in front for way in "NESW" if is_clear(ground.ends, path[-1], way)]
        self.assertGreater(len(ends[0][0]), 5)
        return GOOD + tuple((HIDDEN, end) for end in ends)

    def test_one_of_each(self):
        words = set()
        for claim, certificate in self.good():
            self.told(claim, certificate, True)
            self.assertIs(accepts(claim=claim, certificate=certificate), True)
            self.assertIs(accepts(certificate=certificate, claim=claim), True)
            words.add(claim[0])
        self.assertEqual(len(words), 9)

    def test_bent_claims(self):
        for claim, certificate in self.good():
            for other in bent(claim):
                self.told(other, certificate, False)

    def test_bent_certificates(self):
        for claim, certificate in self.good():
            for other in bent(certificate):
                self.told(claim, other, False)

    def test_other_words(self):
        for claim, certificate in self.good():
            for word in ("", "Free", "standing", "tread", "met", "is", "stands ", "treads\n", "closed", "claim", "set"):
                self.told((word,) + claim[1:], certificate, False)

    def test_certificates_of_other_forms(self):
        good = self.good()
        for claim, _ in good:
            for _, certificate in good:
                self.told(claim, certificate, (claim, certificate) in good)
            if claim[0] in EMPTY:
                for value in (None, [], "", {}, 0, False, ((),), Times(), Squares(), range(0), b"", Same(), (None,)):
                    self.told(claim, value, False)

    def test_any_two_values(self):
        values = NO_WALKERS + NO_INTEGERS + NO_SQUARES + (RING, (0, 0), ((0, 0),), ((0, 0), "N"), ("free",), "open",
                                                          Walker("2 R"), (Walker("2 R"), (1, 1)))
        for value in values:
            for other in values[::7]:
                self.told(value, other, False)
                self.told(("free", value, other), (), False)
                self.told((value, RING, (5, 5)), other, False)
        for claim, certificate in self.good():
            for value in values:
                self.told(claim, value, claim[0] in EMPTY and type(value) is tuple and len(value) == 0)
                self.told(value, certificate, False)

    def test_wrong_walkers(self):
        rows = (None, "", " ", "R", "L B", "0", "10", "2  R", " 2 R", "2 R ", "2 r", "2R", "1 2 3 4 5 6 7 8 9", b"2 R",
                ("2", "R"), ["2 R"], 2, "2\nR", "2 R\n", "\u0662", "-1", "+1")
        for told in ([(row, (0, 0), "N") for row in rows] + [("2 R", start, "N") for start in NO_SQUARES]
                     + [("2 R", (0, 0), way) for way in (None, "", "n", "NE", b"N", ("N",), 0, "X", "N ", Same())]
                     + [("2 R", "N", (0, 0)), ((0, 0), "2 R", "N"), ("2 R",), ("2 R", (0, 0)), ["2 R", (0, 0), "N"],
                        ("2 R", (0, 0), "N", ())]):
            self.told(("free", told, (7, 7)), (), False)
            self.told(("stands", told, 0, (0, 0)), (), False)
            for word in ("never", "apart", "within"):
                self.told((word, told, ("1", (9, 9), "N")), (), False)
                self.told((word, ("1", (9, 9), "N"), told), (), False)
            self.told(("open", told, (7, 7)), (((7, 7),), "N"), False)
        self.told(("free", ("2 R", (0, 0), "N"), (7, 7)), (), True)


class WalksTest(AcceptsTest):
    def test_stands_and_treads(self):
        draw = random.Random(1)
        for _ in range(60):
            told = drawn(draw)
            squares = walk(*told, 300)[0]
            for time in (0, 1, draw.randint(0, 300), 300):
                for square in (squares[time], (squares[time][0] + 1, squares[time][1]), squares[draw.randint(0, 300)]):
                    wanted = squares[time] == square
                    self.told(("stands", told, time, square), (), wanted)
                    self.told(("treads", told, square), time, wanted)
            self.told(("treads", told, squares[5]), -1, False)
            self.told(("treads", told, told[1]), -len(plain_facts.run(told)[0]), False)

    def test_times_at_the_limits(self):
        up = ("1", (0, -FAR), "N")
        self.told(("stands", up, FAR, (0, 0)), (), True)
        self.told(("stands", up, FAR - 1, (0, 0)), (), False)
        self.told(("stands", up, FAR + 1, (0, 1)), (), False)
        self.told(("stands", up, -1, (0, -FAR)), (), False)
        self.told(("stands", up, 0, (0, -FAR)), (), True)
        # later than a time may be
        self.told(("treads", up, (0, FAR)), 2 * FAR, True)
        self.told(("treads", up, (0, FAR)), 2 * FAR - 1, False)
        self.told(("treads", up, (0, FAR + 1)), 2 * FAR + 1, False)
        ring = ("2 R", (FAR, -FAR), "N")
        for time in (1, FAR * 8 + 1, 10 ** 70 * 8 + 1):
            self.told(("treads", ring, (FAR, 1 - FAR)), time, True)
            self.told(("treads", ring, (FAR, 1 - FAR)), time + 1, False)
        down = ("1", (0, FAR), "S")
        self.told(("meet", up, down, FAR), (), True)
        self.told(("meet", up, down, FAR - 1), (), False)
        self.told(("meet", ("1", (0, -FAR), "N"), ("1", (-FAR, 0), "E"), FAR), (), True)
        self.told(("meet", ("2 R", (0, 0), "N"), ("2 R", (0, 0), "N"), FAR + 1), (), False)

    def test_free(self):
        draw = random.Random(2)
        for _ in range(80):
            told = drawn(draw)
            for _ in range(8):
                square = draw.randint(-12, 12), draw.randint(-12, 12)
                self.told(("free", told, square), (), not plain_facts.treads(told, square))
        for square in ((FAR, 0), (FAR, 1), (FAR - 1, 1), (-1, 0), (-FAR, 0)):
            self.told(("free", COMB, square), (), not (square[0] >= 0 and (square[1] == 0 or square[0] % 2 == 0)))

    def test_pairs(self):
        draw = random.Random(3)
        for _ in range(120):
            one, other = drawn(draw), drawn(draw)
            for word, plain in (("never", plain_facts.never), ("apart", plain_facts.apart),
                                ("within", plain_facts.within)):
                for a, b in ((one, other), (other, one), (one, one)):
                    self.told((word, a, b), (), plain(a, b))
            first = plain_facts.meets_first(one, other)
            for time in {0, 3, draw.randint(0, 99)} | ({first, first + 1} if first is not None else set()):
                wanted = plain_facts.on(one, time) == plain_facts.on(other, time)
                self.told(("meet", one, other, time), (), wanted)


class GroundTest(AcceptsTest):
    def test_chambers(self):
        draw = random.Random(4)
        for ground in grounds(ROWS[::3] + tuple(random_rows(21, 12))):
            told = told_of(ground.walker)
            rooms = sorted({room for room in ground.rooms.values() if room is not None})
            for square in draw.sample(ground.squares, min(25, len(ground.squares))):
                room = ground.rooms.get(square)
                self.told(("shut", told, square), (square,), room == (square,))
                if room is not None:
                    self.told(("shut", told, square), room, True)
                    self.less_and_more(ground, told, square, room, draw)
                for other in rooms[:2]:
                    self.told(("shut", told, square), other, square in other)

    def less_and_more(self, ground, told, square, room, draw):
        claim = ("shut", told, square)
        for at in range(min(len(room), 12)):
            self.told(claim, room[:at] + room[at + 1:], False)
        for spot in draw.sample(ground.squares, 8):
            more = tuple(sorted({*room, spot}))
            self.told(claim, more, more == room or ground.rooms.get(spot) == (spot,))
        every = tuple(sorted(spot for spot in ground.squares if ground.rooms.get(spot) is not None))
        whole = tuple(sorted({inner for spot in every for inner in ground.rooms[spot]}))
        self.told(claim, whole, True)
        self.told(claim, whole[::-1], len(whole) == 1)
        self.told(claim, whole + whole, False)
        self.told(claim, whole + whole[-1:], False)
        self.told(claim, list(whole), False)

    def test_chambers_by_hand(self):
        ring = ("3 R", (0, 0), "N")
        inside = ((1, 1), (1, 2), (2, 1), (2, 2))
        claim = ("shut", ring, (2, 1))
        self.told(claim, inside, True)
        for certificate in ((), inside[:3], inside[1:], ((1, 1), (2, 1), (1, 2), (2, 2)), inside + ((3, 3),),
                            ((0, 0),) + inside, inside + ((2, 2),), ((2, 1),), inside + ((10 ** 79, 10 ** 79),),
                            tuple(map(list, inside)), ((True, True),) + inside[1:], ((1, True),) + inside[1:]):
            self.told(claim, certificate, False)
        comb = ("shut", COMB, (3, 1))
        self.told(comb, ((3, 1),), True)
        self.told(comb, ((3, 1), (5, 1), (FAR + 1, 1), (10 ** 78 + 1, 1)), True)
        self.told(comb, ((3, 1), (5, 1), (FAR + 2, 1)), False)
        self.told(comb, ((1, 1), (3, 1)), False)
        self.told(("shut", COMB, (1, 1)), ((1, 1),), False)
        self.told(("shut", COMB, (FAR - 1, 1)), ((FAR - 1, 1),), True)
        self.told(("shut", COMB, (FAR + 1, 1)), ((FAR + 1, 1),), False)
        self.told(("shut", ring, (0, 0)), ((0, 0),), False)
        corner = ("3 R", (FAR - 1, FAR - 1), "N")
        self.told(("shut", corner, (FAR, FAR)), tuple((x + FAR - 1, y + FAR - 1) for x, y in inside), True)

    def test_ways(self):
        draw = random.Random(5)
        for ground in grounds(ROWS[::2] + tuple(random_rows(22, 20))):
            told = told_of(ground.walker)
            for square in draw.sample(ground.squares, min(12, len(ground.squares))):
                spots = [square]
                for _ in range(draw.randint(0, 9)):
                    spots.append(draw.choice([spot for spot in beside(spots[-1])
                                              if spot not in ground.trodden or draw.random() < 0.03] or [square]))
                chain = all(spot in beside(ahead) for ahead, spot in zip(spots, spots[1:]))
                free = not any(spot in ground.trodden for spot in spots)
                for way in "NESW":
                    if max(abs(spots[-1][0] - square[0]), abs(spots[-1][1] - square[1])) <= 9:
                        wanted = chain and free and is_clear(ground.ends, spots[-1], way)
                        self.told(("open", told, square), (tuple(spots), way), wanted)

    def test_ways_by_hand(self):
        claim = ("open", RING, (-1, 1))
        for way, wanted in (("N", True), ("W", True), ("S", True), ("E", False), ("", False), (None, False),
                            ("NW", False), ("n", False), (0, False), (b"N", False), (["N"], False)):
            self.told(claim, (((-1, 1),), way), wanted)
        for spots, way, wanted in ((((-1, 1), (-2, 1), (-1, 1), (-1, 2)), "N", True), (((-1, 1), (-1, 1)), "N", False),
                                   (((-1, 1), (0, 1)), "N", False), (((-1, 1), (0, 1), (-1, 1)), "N", False),
                                   (((-1, 1), (-2, 2)), "N", False), (((-1, 1), (-3, 1)), "N", False),
                                   (((-2, 1), (-1, 1)), "N", False), ((), "N", False),
                                   (((-1, 1), (-1, 2), (-1, 3), (0, 3), (1, 3), (2, 3)), "N", True),
                                   (((-1, 1), (-1, 2), (-1, 3), (0, 3), (1, 3), (2, 3)), "S", False),
                                   (((-1, 1), (-1, 2), (-1, 3), (0, 3), (1, 3), (2, 3)), "E", True),
                                   (((-1, True),), "N", False), (([-1, 1],), "N", False)):
            self.told(claim, (spots, way), wanted)
            self.told(claim, [spots, way], False)
            self.told(claim, (list(spots), way), False)
            self.told(claim, (way, spots), False)
            self.told(claim, (spots, way, way), False)
            self.told(claim, spots, False)
        self.told(("open", RING, (1, 1)), (((1, 1),), "N"), False)
        self.told(("open", RING, (1, 1)), (((1, 1), (1, 2), (1, 3)), "N"), False)
        self.told(("open", RING, (0, 0)), (((0, 0),), "W"), False)

    def test_ways_that_are_met_late(self):
        # the walker comes to (0, 10 ** 30) along its drift, and goes on from there
        for told, square, clear in ((("1", (-FAR, FAR), "E"), (0, 0), "ESW"), (("1", (-FAR, 0), "E"), (0, 1), "NEW"),
                                    (("3 R 3 L", (-FAR, -FAR), "N"), (FAR, 5), "ES"), (COMB, (FAR, -1), "ESW"),
                                    (("1", (5, 0), "W"), (FAR, 0), "NES"), (("1", (5, 0), "E"), (FAR, 1), "NEW")):
            for way in "NESW":
                self.told(("open", told, square), ((square,), way), way in clear)
        # through the end of the grid, where squares are greater than a square may be
        row = tuple((FAR + k, 0) for k in range(4))
        self.told(("open", RING, (FAR, 0)), (row, "E"), True)
        self.told(("open", RING, (FAR, 0)), (row, "W"), False)
        self.told(("open", RING, (FAR + 1, 0)), (row[1:], "E"), False)


if __name__ == "__main__":
    unittest.main()
