"""The ground about a walker, seen from its start: what is trodden, and what lies outside of all its runs."""

from evertreads.lanes import lane_of, square_in
from evertreads.steps import MOVES
from evertreads.walkers import offsets_of


class Ground:
    """What a walker treads.

    `firsts` tells for each lane that it treads the place from which on all of it is trodden. `gauges` are rows
    (a, b, least, greatest): on trodden squares a * x + b * y is from least to greatest. A square for which one of
    them is not so is outside, and from there one can go on for ever without coming back.
    """

    def __init__(self, offsets, drift):
        self.shift = drift
        self.firsts = {}
        for offset in offsets:
            lane, place = lane_of(offset, drift)
            self.firsts[lane] = min(place, self.firsts.get(lane, place))
        measures = ((1, 0), (0, 1)) if drift == (0, 0) else ((drift[1], -drift[0]),)
        self.gauges = []
        for a, b in measures:
            worths = [a * x + b * y for x, y in offsets]
            self.gauges.append((a, b, min(worths), max(worths)))

    def is_trodden(self, square):
        lane, place = lane_of(square, self.shift)
        return self.is_trodden_at(lane, place)

    def is_trodden_at(self, lane, place):
        return lane in self.firsts and place >= self.firsts[lane]

    def is_outside(self, square):
        return any([not least <= a * square[0] + b * square[1] <= greatest for a, b, least, greatest in self.gauges])

    def begun_lanes(self):
        """The first trodden squares of all lanes."""
        return [square_in(lane, place, self.shift) for lane, place in self.firsts.items()]


def ground_of(walker):
    return Ground(offsets_of(walker), walker.drift)


def neighbours(square):
    x, y = square
    return [(x + dx, y + dy) for dx, dy in list(MOVES.values())]


def seen(way, square):
    """How far the square lies to the side, and how far ahead, for one who looks this way."""
    x, y = square
    if way == "N":
        return x, y
    if way == "E":
        return y, x
    if way == "S":
        return x, -y
    return y, -x


def outlook(ground, way):
    """A triple (way, drift, first trodden squares of all lanes), seen by one who looks this way."""
    return way, seen(way, ground.shift), [seen(way, first) for first in ground.begun_lanes()]


def outlooks(ground):
    return [outlook(ground, way) for way in MOVES]


def clear_way(views, square):
    """The first way in which one can go straight on from the square for ever, None if there is none."""
    for view in views:
        if is_clear(view, square):
            return view[0]
    return None


def is_clear(view, square):
    """Whether one can go straight on from the square for ever in the way of the view."""
    way, gain, firsts = view
    spot = seen(way, square)
    return not any([comes_ahead(first, gain, spot) for first in firsts])


def comes_ahead(first, gain, spot):
    """Whether some square first + many * gain is straight ahead of the spot; all are told as pairs (aside, ahead)."""
    if gain[0] == 0:
        return first[0] == spot[0] and (gain[1] > 0 or first[1] > spot[1])
    many, rest = divmod(spot[0] - first[0], gain[0])
    return rest == 0 and many >= 0 and first[1] + many * gain[1] > spot[1]
