"""What is an integer, and what is a row of ascending ones."""


def is_integer(value):
    # True and False are ints to Python, and no integers here
    return isinstance(value, int) and not isinstance(value, bool)


def is_within(value, least, most):
    """Whether the value is an integer from least to most."""
    return is_integer(value) and least <= value <= most


def first_unfit(row, most):
    """The index of the first item that is no integer from 0 to most or not above the one ahead, None without one."""
    for at, value in enumerate(row):
        if not is_within(value, 0, most):
            return at
        if at > 0 and value <= row[at - 1]:
            return at
    return None
