"""Rows of orders, and the steps to which they lead."""

from evertreads.limits import MOST_ORDERS, MOST_STEPS

WAYS = "NESW"
MOVES = {"N": (0, 1), "E": (1, 0), "S": (0, -1), "W": (-1, 0)}
# each turn as the number of turns to the right that come to the same
TURNS = {"R": 1, "B": 2, "L": 3}
MIRRORED = {"R": "L", "L": "R", "E": "W", "W": "E"}


def is_row(value):
    """Whether the value is a row of orders."""
    if not isinstance(value, str):
        return False
    orders = value.split(" ")
    if len(orders) > MOST_ORDERS or not all([is_order(order) for order in orders]):
        return False
    return any([order not in TURNS for order in orders])


def is_order(text):
    return text in TURNS or text in [str(many) for many in range(1, MOST_STEPS + 1)]


def is_way(value):
    return isinstance(value, str) and value in list(MOVES)


def turned_way(way, turns):
    """The way after so many turns to the right."""
    return WAYS[(WAYS.index(way) + turns) % len(WAYS)]


def mirrored_text(text):
    """A row or a way with right and left, east and west exchanged."""
    return "".join([MIRRORED.get(sign, sign) for sign in text])


def one_run(row, way):
    """The ways of the steps in one run through the row, as one string, and the way behind it."""
    gone = ""
    for order in row.split(" "):
        if order in TURNS:
            way = turned_way(way, TURNS[order])
        else:
            gone = gone + way * int(order)
    return gone, way


def ways_gone(row, way):
    """The ways of the steps until they come again, as one string of the least length."""
    gone, now = one_run(row, way)
    while now != way:
        more, now = one_run(row, now)
        gone = gone + more
    many = len(gone)
    for period in range(1, many):
        if many % period == 0 and gone[:period] * (many // period) == gone:
            return gone[:period]
    return gone


def offsets_along(ways):
    """How far one stands from the beginning before each of the steps, and behind the last one."""
    x, y = 0, 0
    offsets = [(x, y)]
    for way in ways:
        dx, dy = MOVES[way]
        x, y = x + dx, y + dy
        offsets.append((x, y))
    return offsets
