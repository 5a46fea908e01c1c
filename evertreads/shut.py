"""What a walker shuts in, and how one gets away from it."""

from evertreads.checks import is_square
from evertreads.errors import InvalidSquare, NotAWalker
from evertreads.grounds import clear_way, ground_of, neighbours, outlooks
from evertreads.pockets import pocket, shut_stretches
from evertreads.walkers import Walker, along_lanes, from_start, to_start


def chamber(walker, square):
    """The squares of the chamber of the square, ascending; None if it is trodden or not shut in."""
    check_walker_and_square(walker, square)
    ground = ground_of(walker)
    offset = to_start(walker, square)
    if ground.is_trodden(offset):
        return None
    found = pocket(ground, offset)
    if found is None:
        return None
    return tuple([from_start(walker, spot) for spot in found])


def shut(walker):
    """The Squares that are shut in."""
    if not isinstance(walker, Walker):
        raise NotAWalker(walker)
    return along_lanes(walker, shut_stretches(ground_of(walker)))


def way_out(walker, square):
    """A shortest way to a square from which one can go straight on for ever, and the first way to go there.

    A pair of the squares on it and the way; None if the square is trodden or shut in.
    """
    check_walker_and_square(walker, square)
    ground = ground_of(walker)
    offset = to_start(walker, square)
    if ground.is_trodden(offset) or pocket(ground, offset) is not None:
        return None
    row, way = shortest_way(ground, offset)
    return tuple([from_start(walker, spot) for spot in row]), way


def shortest_way(ground, square):
    """A shortest row of squares to one from which a way is clear, and this way; there must be one."""
    views = outlooks(ground)
    before = {square: None}
    found = [square]
    at = 0
    way = clear_way(views, square)
    while way is None:
        here = found[at]
        for spot in neighbours(here):
            if spot not in before and not ground.is_trodden(spot):
                before[spot] = here
                found.append(spot)
        at += 1
        way = clear_way(views, found[at])
    row = []
    spot = found[at]
    while spot is not None:
        row.append(spot)
        spot = before[spot]
    return row[::-1], way


def check_walker_and_square(walker, square):
    if not isinstance(walker, Walker):
        raise NotAWalker(walker)
    if not is_square(square):
        raise InvalidSquare(square)
