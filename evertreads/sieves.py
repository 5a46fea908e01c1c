"""What is left of the integers when patterns are taken away from them: whether anything, and how many of a row.

A pattern is a pair of a period and a tuple of marks, as in evertreads.patterns, but it marks integers below 0, too.
"""

from math import gcd, lcm

from evertreads.bits import full, ones, raised, repeated
from evertreads.patterns import common_multiple, inverse, primes_of

# rows of up to so many bits are written out
MOST_BITS = 65536


def seen_along(pattern, rest, step):
    """The pattern of the k with which rest + k * step is marked."""
    period, marks = pattern
    shared = gcd(period, step)
    stride = period // shared
    turn = inverse(step // shared, stride)
    return stride, tuple([(mark - rest) // shared * turn % stride for mark in marks if (mark - rest) % shared == 0])


def gathered(patterns):
    """The same patterns by ascending periods, those with one period as one, and none without marks."""
    rows = {}
    for period, marks in patterns:
        if len(marks) > 0:
            rows[period] = rows.get(period, ()) + marks
    return [(period, tuple(sorted(set(rows[period])))) for period in sorted(rows)]


def taken(patterns, length):
    """The bits of the integers from 0 on, so many, that are marked."""
    row = 0
    for period, marks in patterns:
        row = row | repeated(period, raised(marks), length)
    return row


def loosened(patterns, prime):
    """The patterns without those of the highest power of the prime, if these never decide whether something is left.

    By the digits of remainders for this power, some digit is in none of them. Whatever the other patterns leave,
    they also leave it with this digit, as they do not ask for it.
    """
    power = prime
    while any([period % (power * prime) == 0 for period, _ in patterns]):
        power = power * prime
    digits = sorted(set([mark % power // (power // prime)
                         for period, marks in patterns if period % power == 0 for mark in marks]))
    if len(digits) == prime:
        return patterns
    return [pattern for pattern in patterns if pattern[0] % power > 0]


def deciding(patterns):
    """Those of the patterns on which it depends whether something is left."""
    before = None
    while before != len(patterns):
        before = len(patterns)
        primes = primes_in(patterns)
        for prime in primes:
            patterns = loosened(patterns, prime)
    return patterns


def primes_in(patterns):
    return sorted(set([prime for period, _ in patterns for prime in primes_of(period)]))


def shared_prime(patterns):
    """The least prime that divides two of the periods, None if there is none."""
    for prime in primes_in(patterns):
        if len([period for period, _ in patterns if period % prime == 0]) > 1:
            return prime
    return None


def leave_some(patterns):
    """Whether there is an integer in none of the patterns."""
    patterns = deciding(gathered(patterns))
    if any([len(marks) == period for period, marks in patterns]):
        return False
    length = common_multiple([period for period, _ in patterns])
    if length <= MOST_BITS:
        return taken(patterns, length) != full(length)
    prime = shared_prime(patterns)
    if prime is None:
        # each period leaves some remainder, and remainders by such periods come together in all ways
        return True
    for digit in range(prime):
        if leave_some([seen_along(pattern, digit, prime) for pattern in patterns]):
            return True
    return False


def parted(many, patterns):
    """Two lists of the patterns: those that can be written out together as bits, and the others."""
    together = []
    others = []
    length = 1
    # an other one is followed mark by mark, so the ones with many marks go together
    for _, pattern in sorted([(-len(pattern[1]), pattern) for pattern in patterns]):
        common = lcm(length, pattern[0])
        if min(many, common) <= MOST_BITS:
            together.append(pattern)
            length = common
        else:
            others.append(pattern)
    return together, others


def left_in_bits(many, patterns):
    length = min(many, common_multiple([period for period, _ in patterns]))
    row = taken(patterns, length)
    rounds, rest = divmod(many, length)
    return rounds * (length - ones(row)) + rest - ones(row & full(rest))


def left_of(many, patterns):
    """How many of the integers from 0 on, so many, are in none of the patterns."""
    if many == 0:
        return 0
    shown = [(period, tuple([mark for mark in marks if mark < many])) for period, marks in patterns]
    together, others = parted(many, gathered(shown))
    left = left_in_bits(many, together)
    for at, (period, marks) in enumerate(others):
        ahead = together + others[:at]
        for mark in marks:
            # only what no pattern ahead has, so that nothing is taken away twice
            members = (many - 1 - mark) // period + 1
            left = left - left_of(members, [seen_along(other, mark, period) for other in ahead])
    return left
