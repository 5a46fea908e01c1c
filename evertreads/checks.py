"""What is an integer, a square, a time, a name, and a row of ascending integers."""

from evertreads.limits import GREATEST

MOST_LETTERS = 8


def is_integer(value):
    # True and False are ints to Python, and no integers here
    return isinstance(value, int) and not isinstance(value, bool)


def is_within(value, least, most):
    """Whether the value is an integer from least to most."""
    return is_integer(value) and least <= value <= most


def first_unfit(row, most):
    """The index of the first item that is no integer from 0 to most or not above the one ahead, None without one."""
    for at, value in enumerate(row):
        if not is_within(value, 0, most):
            return at
        if at > 0 and value <= row[at - 1]:
            return at
    return None


def is_pair(value):
    """Whether the value is a pair of integers of any size."""
    return isinstance(value, tuple) and len(value) == 2 and is_integer(value[0]) and is_integer(value[1])


def is_square(value):
    return is_pair(value) and abs(value[0]) <= GREATEST and abs(value[1]) <= GREATEST


def is_time(value):
    return is_within(value, 0, GREATEST)


def is_name(value):
    if not isinstance(value, str) or not 1 <= len(value) <= MOST_LETTERS:
        return False
    return all(["a" <= sign <= "z" for sign in value])
