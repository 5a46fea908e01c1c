"""Sets of times: what a pattern marks, but for finitely many integers."""

from evertreads.checks import first_unfit, is_integer, is_within
from evertreads.errors import InvalidCount, InvalidMarks, InvalidParts, InvalidPeriod
from evertreads.limits import GREATEST, MOST_COUNT, MOST_PERIOD
from evertreads.patterns import in_both, in_either, left_over, marked_from, shortest
from evertreads.rows import holds, place


class Times:
    """The integers of at least 0 with certain remainders, but each of the numbers the other way round.

    The period is kept as the least one. Then period, marks and numbers are the only ones of the set, and sets are
    equal just if these are.
    """

    def __init__(self, *numbers, period=1, marks=()):
        at = first_unfit(numbers, GREATEST)
        if at is not None:
            raise InvalidParts(at)
        if not is_within(period, 1, MOST_PERIOD):
            raise InvalidPeriod(period)
        if not isinstance(marks, tuple) or first_unfit(marks, period - 1) is not None:
            raise InvalidMarks(marks)
        # int() so that subclasses of int are told as plain integers
        self._numbers = tuple([int(number) for number in numbers])
        self._pattern = shortest(int(period), tuple([int(mark) for mark in marks]))

    @property
    def period(self):
        return self._pattern[0]

    @property
    def marks(self):
        return self._pattern[1]

    @property
    def numbers(self):
        return self._numbers

    @property
    def first(self):
        return self._least_from(0)

    @property
    def endless(self):
        return len(self._pattern[1]) > 0

    @property
    def many(self):
        # without marks the period is 1, and the numbers are the whole set
        if len(self._pattern[1]) > 0:
            return None
        return len(self._numbers)

    def ascending(self, count):
        """The first so many of the set, or all of them if there are fewer."""
        if not is_within(count, 0, MOST_COUNT):
            raise InvalidCount(count)
        least = 0
        for _ in range(count):
            time = self._least_from(least)
            if time is None:
                return
            yield time
            least = time + 1

    def _least_from(self, low):
        """The least integer of the set that is at least low, None if there is none."""
        period, marks = self._pattern
        numbers = self._numbers
        at = place(numbers, low)
        marked = marked_from(period, marks, low)
        while at < len(numbers) and numbers[at] == marked:
            marked = marked_from(period, marks, marked + 1)
            at += 1
        if at < len(numbers) and (marked is None or numbers[at] < marked):
            return numbers[at]
        return marked

    def __contains__(self, number):
        if not is_integer(number) or number < 0:
            return False
        period, marks = self._pattern
        return holds(marks, number % period) != holds(self._numbers, number)

    def __and__(self, other):
        numbers = merged(self._numbers, other._numbers)
        held = [number for number in numbers if number in self and number in other]
        return joined(in_both(self._pattern, other._pattern), numbers, held)

    def __or__(self, other):
        numbers = merged(self._numbers, other._numbers)
        held = [number for number in numbers if number in self or number in other]
        return joined(in_either(self._pattern, other._pattern), numbers, held)

    def __sub__(self, other):
        numbers = merged(self._numbers, other._numbers)
        held = [number for number in numbers if number in self and number not in other]
        return joined(left_over(self._pattern, other._pattern), numbers, held)

    def __eq__(self, other):
        return isinstance(other, Times) and self._pattern == other._pattern and self._numbers == other._numbers

    def __bool__(self):
        return bool(self._pattern[1]) or bool(self._numbers)

    def __repr__(self):
        numbers = [f"{number}, " for number in self._numbers]
        return f"Times({''.join(numbers)}period={self._pattern[0]}, marks={self._pattern[1]})"


def unchecked(numbers, period, marks):
    """The Times of an ascending tuple of numbers and a pattern, which can be greater than what callers may pass."""
    made = Times()
    made._pattern = shortest(period, marks)
    made._numbers = numbers
    return made


def merged(numbers, others):
    return tuple(sorted(set(numbers + others)))


def joined(pattern, numbers, held):
    """The Times with the pattern, but of the numbers just those that are held."""
    period, marks = pattern
    kept = {number: True for number in held}
    exceptions = [number for number in numbers if (number in kept) != holds(marks, number % period)]
    return unchecked(tuple(exceptions), period, marks)
