"""Claims about walkers with the certificates for them that the checker accepts."""

from evertreads.facts import are_apart, treads_within
from evertreads.limits import GREATEST
from evertreads.meeting import meeting
from evertreads.shut import chamber, check_walker_and_square, way_out


def certify_square(walker, square):
    """That the walker treads the square, shuts it in, or neither of these."""
    check_walker_and_square(walker, square)
    time = walker.times(square).first
    if time is not None:
        return ("treads", told(walker), square), time
    room = chamber(walker, square)
    if room is not None:
        return ("shut", told(walker), square), room
    return ("open", told(walker), square), way_out(walker, square)


def certify_meeting(walker, other):
    """That they meet at their first time, or never; None if this is too great for a time."""
    time = meeting(walker, other).first
    if time is None:
        return ("never", told(walker), told(other)), ()
    if time > GREATEST:
        return None
    return ("meet", told(walker), told(other), time), ()


def certify_pair(walker, other):
    """That they tread no common square, or that the first one treads only squares of the other; else None."""
    if are_apart(walker, other):
        return ("apart", told(walker), told(other)), ()
    if treads_within(walker, other):
        return ("within", told(walker), told(other)), ()
    return None


def told(walker):
    """The walker as claims tell it."""
    return walker.row, walker.start, walker.way
