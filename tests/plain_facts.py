"""What is so of walkers told as tuples (row, start, way), worked out the plain way from one run of each.

For walkers whose starts are not far from one another: what lies along one line is looked for step by step.
"""

import functools
import math

from tests.plain_walk import TURNS, walk


@functools.lru_cache(maxsize=None)
def run(told):
    """The squares at the times of some period, and how far the walker goes in it."""
    row, start, way = told
    turns = sum(TURNS.get(order, 0) for order in row.split(" ")) % 4
    runs = {0: 1, 1: 4, 2: 2, 3: 4}[turns]
    steps = runs * sum(int(order) for order in row.split(" ") if order.isdigit())
    squares = walk(row, start, way, steps)[0]
    return tuple(squares[:-1]), (squares[-1][0] - start[0], squares[-1][1] - start[1])


def rounds_to(gap, drift):
    """The number of drifts, at least 0, that make up the gap; None if there is none."""
    if drift == (0, 0):
        return 0 if gap == (0, 0) else None
    at = 0 if drift[0] != 0 else 1
    many = gap[at] // drift[at]
    return many if many >= 0 and gap == (many * drift[0], many * drift[1]) else None


def gap(one, other):
    return other[0] - one[0], other[1] - one[1]


def on(told, time):
    squares, drift = run(told)
    many, rest = divmod(time, len(squares))
    return squares[rest][0] + many * drift[0], squares[rest][1] + many * drift[1]


def times_on(told, square):
    """The times at which it stands on the square in the first period and, for an open walker, ever."""
    squares, drift = run(told)
    found = []
    for at, first in enumerate(squares):
        many = rounds_to(gap(first, square), drift)
        if many is not None:
            found.append(at + many * len(squares))
    return sorted(found)


def treads(told, square):
    return bool(times_on(told, square))


def meets_first(told, other):
    """The first time at which both stand on one square, None if there is none."""
    period = math.lcm(len(run(told)[0]), len(run(other)[0]))
    gain = gap(gap(on(told, 0), on(told, period)), gap(on(other, 0), on(other, period)))
    found = []
    for time in range(period):
        many = rounds_to(gap(on(other, time), on(told, time)), gain)
        if many is not None:
            found.append(time + many * period)
    return min(found, default=None)


def never(told, other):
    return meets_first(told, other) is None


def rays_cross(square, drift, other, other_drift):
    """Whether some squares that lie so many drifts on, at least 0, are one."""
    turn = drift[0] * other_drift[1] - drift[1] * other_drift[0]
    if turn == 0:
        far = max(map(abs, gap(square, other))) + 200 if drift != (0, 0) else 1
        return any(rounds_to(gap(other, (square[0] + k * drift[0], square[1] + k * drift[1])), other_drift) is not None
                   for k in range(far))
    dx, dy = gap(square, other)
    many, rest = divmod(dx * other_drift[1] - dy * other_drift[0], turn)
    other_many, other_rest = divmod(dx * drift[1] - dy * drift[0], turn)
    return rest == other_rest == 0 and many >= 0 and other_many >= 0


@functools.lru_cache(maxsize=None)
def apart(told, other):
    (squares, drift), (others, other_drift) = run(told), run(other)
    return not any(rays_cross(square, drift, another, other_drift)
                   for square in set(squares) for another in set(others))


@functools.lru_cache(maxsize=None)
def within(told, other):
    (squares, drift), (others, other_drift) = run(told), run(other)
    if drift != (0, 0):
        turn = drift[0] * other_drift[1] - drift[1] * other_drift[0]
        if turn != 0 or drift[0] * other_drift[0] + drift[1] * other_drift[1] <= 0:
            return False
    # far enough for all that the other one treads there to have begun, and to have come round once
    far = max(map(abs, gap(squares[0], others[0]))) + 200 if drift != (0, 0) else 1
    return all(treads(other, (x + k * drift[0], y + k * drift[1])) for x, y in set(squares) for k in range(far))


def told_of(walker):
    return walker.row, walker.start, walker.way
