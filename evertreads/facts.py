"""What is so about walkers at all times and on all squares of the endless grid."""

from evertreads.meeting import common, meeting
from evertreads.shut import chamber


def are_apart(walker, other):
    """Whether they tread no common square."""
    return not common(walker, other)


def never_meet(walker, other):
    """Whether they never stand on one square at the same time."""
    return meeting(walker, other).first is None


def treads_within(walker, other):
    """Whether the first one treads only squares that the other one treads."""
    return not (walker.squares() - other.squares())


def treads(walker, square):
    """Whether it ever stands on the square."""
    return walker.times(square).first is not None


def shuts_in(walker, square):
    """Whether the square is shut in by it."""
    return chamber(walker, square) is not None
