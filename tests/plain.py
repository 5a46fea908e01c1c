"""Sets of times worked out the slow and plain way, to compare those of the package with."""


def member(number, numbers, period, marks):
    return (number % period in marks) != (number in numbers)


def least_period(wanted, length):
    """The least period of a function of integers that repeats itself after the length."""
    for period in range(1, length + 1):
        if length % period == 0 and all(wanted(k) == wanted(k % period) for k in range(length)):
            return period
    raise AssertionError("the length is none of the periods")


def told(held, pattern, length, end):
    """The parts (numbers, period, marks) by which a set is told.

    `held` tells what is in the set, `pattern` what would be without its exceptions, which lie below the end.
    """
    period = least_period(pattern, length)
    marks = tuple(k for k in range(period) if pattern(k))
    numbers = tuple(k for k in range(end) if held(k) != pattern(k))
    return numbers, period, marks


def parts(times):
    return times.numbers, times.period, times.marks


def subsets(row):
    """All tuples of some of the row, in its order."""
    found = [()]
    for x in row:
        found = found + [one + (x,) for one in found]
    return found
