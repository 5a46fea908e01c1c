"""Patterns: pairs of a period and a tuple of marks, which are ascending remainders by the period.

A pattern marks the integers of at least 0 that have one of the remainders.
"""

from math import gcd, lcm

from evertreads.rows import place


def primes_of(number):
    """The primes that divide a number of at least 1, ascending, each one once."""
    primes = []
    prime = 2
    while prime * prime <= number:
        if number % prime == 0:
            primes.append(prime)
            while number % prime == 0:
                number = number // prime
        prime += 1
    if number > 1:
        # nothing up to its root divides it, so it is a prime itself
        primes.append(number)
    return primes


def common_multiple(numbers):
    """The least common multiple of all numbers in a list, 1 without any."""
    multiple = 1
    for number in numbers:
        multiple = lcm(multiple, number)
    return multiple


def repeats(period, marks, parts):
    """Whether the marks stand alike in each of so many equal parts of the period."""
    many = len(marks) // parts
    if many * parts != len(marks):
        return False
    stride = period // parts
    return list(marks[many:]) == [mark + stride for mark in marks[:len(marks) - many]]


def shortest(period, marks):
    """The pattern that marks the same integers by the least period."""
    for prime in primes_of(period):
        while period % prime == 0 and repeats(period, marks, prime):
            period = period // prime
            marks = marks[:len(marks) // prime]
    return period, marks


def marked_from(period, marks, low):
    """The least marked integer that is at least low, which is at least 0; None without marks."""
    if len(marks) == 0:
        return None
    rounds, rest = divmod(low, period)
    at = place(marks, rest)
    if at == len(marks):
        return (rounds + 1) * period + marks[0]
    return rounds * period + marks[at]


def stretched(period, marks, length):
    """The integers below the length, a multiple of the period, that are marked."""
    if len(marks) == 0:
        # a common length can be far too long to go through it for nothing
        return []
    return [start + mark for start in range(0, length, period) for mark in marks]


def inverse(number, modulus):
    """What gives 1 by the modulus when it is multiplied with the number; the two have no common divisor."""
    ahead, behind = modulus, number % modulus
    worth_ahead, worth_behind = 0, 1
    while behind > 0:
        many = ahead // behind
        ahead, behind = behind, ahead - many * behind
        worth_ahead, worth_behind = worth_behind, worth_ahead - many * worth_behind
    return worth_ahead % modulus


def by_remainder(marks, shared):
    """A dict from each remainder by shared that a mark has to the tuple of the marks with it."""
    pairs = sorted([(mark % shared, mark) for mark in marks])
    starts = [at for at, pair in enumerate(pairs) if at == 0 or pair[0] != pairs[at - 1][0]]
    ends = starts[1:] + [len(pairs)]
    return {pairs[start][0]: tuple([pair[1] for pair in pairs[start:end]]) for start, end in zip(starts, ends)}


def in_both(one, other):
    """The pattern of the integers that both patterns mark.

    Only the marks that come out are gone through, as two long periods have a common one far beyond them.
    """
    period, marks = one
    other_period, other_marks = other
    shared = gcd(period, other_period)
    stride = other_period // shared
    turn = inverse(period // shared, stride)
    partners = by_remainder(other_marks, shared)
    found = [mark + period * ((partner - mark) // shared * turn % stride)
             for mark in marks for partner in partners.get(mark % shared, ())]
    return lcm(period, other_period), tuple(sorted(found))


def left_over(one, other):
    """The pattern of the integers that the first one marks and the other one does not."""
    period, marks = one
    other_period, other_marks = other
    length = lcm(period, other_period)
    taken = {mark: True for mark in other_marks}
    return length, tuple([time for time in stretched(period, marks, length) if time % other_period not in taken])


def in_either(one, other):
    """The pattern of the integers that at least one of the patterns marks."""
    for pattern in (one, other):
        # told without the common period, by which it can have too many marks to be gone through
        if len(pattern[1]) == pattern[0]:
            return pattern
    length, added = left_over(other, one)
    period, marks = one
    return length, tuple(sorted(stretched(period, marks, length) + list(added)))
