"""What rules hold: whether anything at all, and how much of a row of integers.

The ways through the nodes of a rule that end in 1 are its cases. A case (rest, step, barred) stands for the integers
rest + k * step that are in none of the barred patterns, and no integer is in two cases.
"""

from math import gcd

from evertreads.bits import full, ones, places
from evertreads.patterns import inverse
from evertreads.rules import common_period, told
from evertreads.sieves import MOST_BITS, leave_some, left_of, seen_along

# with up to so many remainders that an answer allows, each one is followed by itself
FEW_MARKS = 8


def sides(rule):
    """For each node its two answers (the place behind it, the marks allowed by it, the marks barred by it)."""
    found = []
    for period, bits, low, high in rule[1]:
        marks, others = places(bits), places(bits ^ full(period))
        found.append(((low, others, marks), (high, marks, others)))
    return found


def meeting_point(rest, step, mark, period):
    """The pair (remainder, number) for the integers that leave rest by step and mark by period, None without any."""
    shared = gcd(step, period)
    stride = period // shared
    if (mark - rest) % shared > 0:
        return None
    lift = (mark - rest) // shared * inverse(step // shared, stride) % stride
    return rest + step * lift, step * stride


def followers(place, rule, answers):
    """The places behind a place (number of a node, rest, step, barred), without those that lead to 0 at once."""
    at, rest, step, barred = place
    period = rule[1][at - 2][0]
    found = []
    for behind, allowed, refused in answers[at - 2]:
        if behind == 0:
            continue
        if len(allowed) > min(FEW_MARKS, len(refused)):
            found.append((behind, rest, step, barred + ((period, refused),)))
            continue
        points = [meeting_point(rest, step, mark, period) for mark in allowed]
        found.extend([(behind, point[0], point[1], barred) for point in points if point is not None])
    return found


def holds_any(rule):
    """Whether any integer is in the set, and therefore infinitely many ones both ways."""
    root, nodes = rule
    if len(nodes) < 2:
        return root > 0
    period = common_period(rule)
    if told(rule, 0, min(period, MOST_BITS)) > 0:
        return True
    if period <= MOST_BITS:
        return False
    answers = sides(rule)
    waiting = [(root, 0, 1, ())]
    while len(waiting) > 0:
        place = waiting.pop()
        at, rest, step, barred = place
        if at > 1:
            waiting.extend(followers(place, rule, answers))
        elif leave_some([seen_along(pattern, rest, step) for pattern in barred]):
            return True
    return False


def cases(rule, start, length):
    """The cases with integers among so many from the start on."""
    answers = sides(rule)
    waiting = [(rule[0], 0, 1, ())]
    found = []
    while len(waiting) > 0:
        place = waiting.pop()
        at, rest, step, barred = place
        if (rest - start) % step >= length:
            continue
        if at > 1:
            waiting.extend(followers(place, rule, answers))
        else:
            found.append((rest, step, barred))
    return found


def seen_from(case, start, length):
    """How many integers of the row the case has but for its patterns, and the patterns told along these."""
    rest, step, barred = case
    offset = (rest - start) % step
    return (length - 1 - offset) // step + 1, [seen_along(pattern, start + offset, step) for pattern in barred]


def many_in(rule, start, length, most=None):
    """How many integers of so many from the start on are in the set; more than `most` are told as so many."""
    if rule[0] == 0 or length == 0:
        return 0
    period = common_period(rule)
    written = min(length, period, MOST_BITS)
    row = told(rule, start, written)
    if most is not None and ones(row) >= most:
        return most
    if written < min(length, period):
        return many_in_cases(rule, start, length, most)
    rounds, rest = divmod(length, written)
    return rounds * ones(row) + ones(row & full(rest))


def many_in_cases(rule, start, length, most):
    """The same, for a rule that is too long to be written out."""
    found = 0
    for case in cases(rule, start, length):
        many, patterns = seen_from(case, start, length)
        if not leave_some(patterns):
            continue
        if most is not None and found + left_of(min(many, MOST_BITS), patterns) >= most:
            return most
        found = found + left_of(many, patterns)
    return found
