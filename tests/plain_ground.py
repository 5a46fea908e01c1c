"""The ground about walkers filled square by square, to compare what the package says is shut in with."""

import random

from evertreads.walkers import Walker
from tests.plain_walk import box_about, ends_of_lines, rooms, walk


def random_rows(seed, many):
    """Rows of which some go on and turn much."""
    draw = random.Random(seed)
    rows = []
    while len(rows) < many:
        many_orders = draw.choice((4, 6, 8))
        orders = [draw.choice("123456789" if at % 2 == 0 else "RRRLB") for at in range(many_orders)]
        if draw.random() < 0.2 or not Walker(" ".join(orders)).closed:
            rows.append(" ".join(orders))
    return rows


class Ground:
    """The squares about the beginning of a walk, and what a longer walk made step by step says of them.

    The rooms are filled in a box that reaches so far beyond these squares that no chamber of theirs comes to its edge.
    """

    def __init__(self, row, start, way):
        self.walker = Walker(row, start, way)
        far = max(map(abs, self.walker.drift))
        begun, beyond, farther = (3, 3, 3) if far == 0 else (1 + 25 // far, 3 + 250 // far, 150 + 250 // far)
        squares = walk(row, start, way, farther * self.walker.period)[0]
        self.trodden = set(squares[:beyond * self.walker.period])
        # all straight lines from the squares come to a tread by then, if they ever do
        self.ends = ends_of_lines(set(squares))
        low, high, bottom, top = box_about(squares[:begun * self.walker.period], 2)
        self.squares = [(x, y) for x in range(low, high + 1) for y in range(bottom, top + 1)]
        self.rooms = rooms(self.trodden, (low - 38, high + 38, bottom - 38, top + 38))


def grounds(rows):
    for at, row in enumerate(rows):
        yield Ground(row, (5 * at - 30, 11 - at), "NESW"[at % 4])
