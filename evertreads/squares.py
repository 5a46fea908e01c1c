"""Sets of squares: finitely many squares and rays, and what comes of them by joining, cutting and taking away."""

from evertreads.checks import is_pair, is_square, is_within
from evertreads.errors import InvalidCount, InvalidParts, InvalidSquare
from evertreads.fields import any_in_field, endless_field, in_field, joined_fields, laid, many_in_field, near_in_field
from evertreads.limits import MOST_MOVE, MOST_REACH
from evertreads.rules import BOTH, EITHER, FIRST, ONE

MOST_PARTS = 20


class Squares:
    """The squares that are among the parts, or in a ray (x, y, dx, dy) among them."""

    def __init__(self, *parts):
        for at, part in enumerate(parts):
            if at >= MOST_PARTS or not (is_square(part) or is_ray(part)):
                raise InvalidParts(at)
        # int() so that subclasses of int are told as plain integers
        rows = [tuple([int(number) for number in part]) for part in parts]
        self._field = laid([row for row in rows if len(row) == 2], [row for row in rows if len(row) == 4])

    @property
    def endless(self):
        return endless_field(self._field)

    @property
    def many(self):
        if endless_field(self._field):
            return None
        return many_in_field(self._field)

    def near(self, square, reach):
        """The squares of the set within the reach about the square, ascending."""
        if not is_square(square):
            raise InvalidSquare(square)
        if not is_within(reach, 0, MOST_REACH):
            raise InvalidCount(reach)
        return near_in_field(self._field, square, reach)

    def __contains__(self, square):
        return is_pair(square) and in_field(self._field, square)

    def __and__(self, other):
        return with_field(joined_fields(self._field, other._field, BOTH))

    def __or__(self, other):
        return with_field(joined_fields(self._field, other._field, EITHER))

    def __sub__(self, other):
        return with_field(joined_fields(self._field, other._field, FIRST))

    def __eq__(self, other):
        return isinstance(other, Squares) and not any_in_field(joined_fields(self._field, other._field, ONE))

    def __bool__(self):
        return bool(any_in_field(self._field))


def is_ray(part):
    """Whether the part is a square and a move behind it, as one tuple."""
    if not isinstance(part, tuple) or len(part) != 4 or not is_square(part[:2]):
        return False
    if not all([is_within(number, -MOST_MOVE, MOST_MOVE) for number in part[2:]]):
        return False
    return part[2] != 0 or part[3] != 0


def with_field(field):
    made = Squares()
    made._field = field
    return made


def of_parts(points, rays):
    """The Squares of as many squares and rays as wanted, with integers of any size."""
    return with_field(laid(points, rays))
