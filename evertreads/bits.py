"""Rows of bits, each in one integer: bit k tells about the k-th of so many integers.

A row of so many bits as a period stands for the integers, also those below 0, whose remainders by it have a 1.
"""

from evertreads.patterns import primes_of


def repeated(period, bits, length):
    """The first so many bits of the row that repeats these bits after each period."""
    known = period
    while known < length:
        bits = bits | (bits << known)
        known = known * 2
    return bits & full(length)


def window(period, bits, start, length):
    """The bits about so many integers from the start on."""
    offset = start % period
    return repeated(period, bits, offset + length) >> offset


def least(period, bits):
    """The period and bits that stand for the same integers by the least period."""
    for prime in primes_of(period):
        part = period // prime
        while part * prime == period and repeated(part, bits & full(part), period) == bits:
            period = part
            bits = bits & full(part)
            part = period // prime
    return period, bits


def full(length):
    return (1 << length) - 1


def ones(bits):
    """How many bits are 1."""
    return f"{bits:b}".count("1")


def places(bits):
    """The ascending tuple of the places where bits are 1."""
    return tuple([at for at, sign in enumerate(f"{bits:b}"[::-1]) if sign == "1"])


def raised(marks):
    """The bits that are 1 at just these places, each one told once."""
    return sum([1 << mark for mark in marks])
