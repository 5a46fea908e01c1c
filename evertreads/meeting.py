"""Where and when two walkers come together."""

from math import lcm

from evertreads.errors import NotAWalker
from evertreads.times import unchecked
from evertreads.walkers import Walker, square_at, ways_of


def meeting(walker, other):
    """The Times at which both stand on the same square."""
    check_walkers(walker, other)
    period = lcm(walker.period, other.period)
    dx, dy = apart(square_at(walker, period), square_at(other, period))
    x, y = apart(walker.start, other.start)
    # how much farther apart they are after each common period
    gain = dx - x, dy - y
    gaps = [apart(square_at(walker, time), square_at(other, time)) for time in range(period)]
    if gain == (0, 0):
        return unchecked((), period, tuple([time for time, gap in enumerate(gaps) if gap == (0, 0)]))
    rounds = [rounds_to_close(gap, gain) for gap in gaps]
    numbers = [many * period + time for time, many in enumerate(rounds) if many is not None]
    return unchecked(tuple(sorted(numbers)), 1, ())


def common(walker, other):
    """The Squares that both tread, at whatever times."""
    check_walkers(walker, other)
    return walker.squares() & other.squares()


def same_walk(walker, other):
    """Whether they stand on the same square at every time."""
    check_walkers(walker, other)
    return walker.start == other.start and ways_of(walker) == ways_of(other)


def same_squares(walker, other):
    """Whether they tread the same squares."""
    check_walkers(walker, other)
    return walker.squares() == other.squares()


def check_walkers(walker, other):
    for value in (walker, other):
        if not isinstance(value, Walker):
            raise NotAWalker(value)


def apart(square, other):
    return square[0] - other[0], square[1] - other[1]


def rounds_to_close(gap, gain):
    """How many gains, which are not (0, 0), make the gap vanish; None if no number of at least 0 does."""
    many = -gap[0] // gain[0] if gain[0] != 0 else -gap[1] // gain[1]
    if many >= 0 and gap[0] + many * gain[0] == 0 and gap[1] + many * gain[1] == 0:
        return many
    return None
