"""Walkers that follow a row of orders again and again."""

from evertreads.checks import is_square, is_time, is_within
from evertreads.errors import InvalidCount, InvalidMove, InvalidRow, InvalidSquare, InvalidTime, InvalidWay
from evertreads.lanes import lane_of, lanes_trodden, square_in
from evertreads.limits import GREATEST, MOST_COUNT
from evertreads.squares import of_parts
from evertreads.steps import is_row, is_way, mirrored_text, offsets_along, turned_way, ways_gone
from evertreads.times import unchecked


class Walker:
    """A walker that begins on its start at time 0, looking in its way.

    Everything about its steps is kept as seen from the start: `_offsets` are where it stands in the first period, and
    `_lanes` the lanes of these squares by its drift.
    """

    def __init__(self, row, start=(0, 0), way="N"):
        if not is_row(row):
            raise InvalidRow(row)
        if not is_square(start):
            raise InvalidSquare(start)
        if not is_way(way):
            raise InvalidWay(way)
        self._row = row
        self._start = start
        self._way = way
        self._ways = ways_gone(row, way)
        offsets = offsets_along(self._ways)
        self._offsets = offsets[:-1]
        self._drift = offsets[-1]
        self._lanes = lanes_trodden(self._offsets, self._drift)

    @property
    def row(self):
        return self._row

    @property
    def start(self):
        return self._start

    @property
    def way(self):
        return self._way

    @property
    def period(self):
        return len(self._ways)

    @property
    def drift(self):
        return self._drift

    @property
    def closed(self):
        return self._drift == (0, 0)

    def squares(self):
        """The Squares that the walker treads."""
        if self.closed:
            return of_parts([from_start(self, offset) for offset in self._offsets], [])
        return along_lanes(self, [(lane, passed[0][0], None) for lane, passed in self._lanes.items()])

    def at(self, time):
        """The square on which the walker stands."""
        if not is_time(time):
            raise InvalidTime(time)
        return square_at(self, time)

    def goes(self, time):
        """The way in which the walker goes from this time to the next one."""
        if not is_time(time):
            raise InvalidTime(time)
        return self._ways[time % len(self._ways)]

    def times(self, square):
        """The Times at which the walker stands on the square."""
        if not is_square(square):
            raise InvalidSquare(square)
        lane, place = lane_of(to_start(self, square), self._drift)
        passed = self._lanes.get(lane, ())
        period = len(self._ways)
        if self.closed:
            return unchecked((), period, tuple([at for _, at in passed]))
        numbers = sorted([(place - first) * period + at for first, at in passed if first <= place])
        return unchecked(tuple(numbers), 1, ())

    def trodden(self, count):
        """The Squares on which the walker stands at just so many times."""
        if not is_within(count, 1, MOST_COUNT):
            raise InvalidCount(count)
        if self.closed:
            return of_parts([], [])
        # from each place on at which one of the offsets lies, the squares of a lane are trodden once more
        stretches = []
        for lane, passed in self._lanes.items():
            if len(passed) >= count:
                stretches.append((lane, passed[count - 1][0], passed[count][0] if len(passed) > count else None))
        return along_lanes(self, stretches)

    def moved(self, dx, dy):
        """The walker with a start moved by this."""
        for number in (dx, dy):
            if not is_within(number, -GREATEST, GREATEST):
                raise InvalidMove(number)
        return begun(self._row, from_start(self, (dx, dy)), self._way)

    def turned(self):
        """The walk turned to the right about (0, 0)."""
        x, y = self._start
        return begun(self._row, (y, -x), turned_way(self._way, 1))

    def mirrored(self):
        """The walk with east and west exchanged."""
        x, y = self._start
        return begun(mirrored_text(self._row), (-x, y), mirrored_text(self._way))

    def __str__(self):
        return f"{self._row} from {self._start[0]},{self._start[1]} to {self._way}"

    def __repr__(self):
        return f"Walker({self._row} from {self._start[0]},{self._start[1]} to {self._way})"


def begun(row, start, way):
    """The Walker with this start, which may be greater than a square can be."""
    walker = Walker(row, (0, 0), way)
    walker._start = start
    return walker


def from_start(walker, offset):
    """The square that lies so far from the start."""
    return walker.start[0] + offset[0], walker.start[1] + offset[1]


def to_start(walker, square):
    """How far the square lies from the start."""
    return square[0] - walker.start[0], square[1] - walker.start[1]


def square_at(walker, time):
    """The square on which the walker stands at a time of any size."""
    rounds, rest = divmod(time, walker.period)
    return from_start(walker, square_in(walker._offsets[rest], rounds, walker.drift))


def along_lanes(walker, stretches):
    """The Squares of triples (lane, first place, place behind the last one, None without a last one)."""
    points = []
    rays = []
    for lane, first, end in stretches:
        if end is None:
            rays.append(from_start(walker, square_in(lane, first, walker.drift)) + walker.drift)
        else:
            points.extend([from_start(walker, square_in(lane, place, walker.drift)) for place in range(first, end)])
    return of_parts(points, rays)


def ways_of(walker):
    """The ways of its steps in one period, as one string."""
    return walker._ways


def offsets_of(walker):
    """How far from the start it stands at the times of the first period."""
    return list(walker._offsets)
