"""Lines through squares. A line is told as (px, py, x, y): by its slope (px, py), which is the least step along it,
to the right or, where that is not possible, up; and by the square (x, y) on it whose place is 0.
"""

from math import gcd


def slope_of(dx, dy):
    """The slope of the line along which the move goes, and how many of its steps the move is."""
    many = gcd(dx, dy)
    if dx < 0 or (dx == 0 and dy < 0):
        many = -many
    return (dx // many, dy // many), many


def line_through(square, slope):
    """The line with this slope, and the place of the square on it."""
    x, y = square
    px, py = slope
    at = x // px if px > 0 else y
    return (px, py, x - at * px, y - at * py), at


def square_on(line, at):
    px, py, x, y = line
    return x + at * px, y + at * py


def crossing(one, other):
    """The square on both lines, which have unlike slopes; None if there is none."""
    px, py, x, y = one
    other_px, other_py, other_x, other_y = other
    turn = px * other_py - py * other_px
    at, rest = divmod((other_x - x) * other_py - (other_y - y) * other_px, turn)
    # a slope is the least step, so all squares on a line are places on it
    return square_on(one, at) if rest == 0 else None
