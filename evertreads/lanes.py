"""Lanes: all squares that differ by multiples of a drift. A lane is told by one of its squares, and each square by
its lane and its place: how many drifts it lies beyond that one. Without a drift each square is a lane of its own.
"""


def lane_of(square, drift):
    """The lane of the square, and its place in it."""
    x, y = square
    dx, dy = drift
    place = 0
    if dx != 0:
        place = x // dx
    elif dy != 0:
        place = y // dy
    return (x - place * dx, y - place * dy), place


def square_in(lane, place, drift):
    return lane[0] + place * drift[0], lane[1] + place * drift[1]


def lanes_trodden(offsets, drift):
    """A dict from the lanes of the squares to tuples of pairs (place, index of the square), ascending."""
    found = {}
    for at, square in enumerate(offsets):
        lane, place = lane_of(square, drift)
        found.setdefault(lane, []).append((place, at))
    return {lane: tuple(sorted(found[lane])) for lane in found}
