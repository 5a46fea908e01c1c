"""Tracks: what is held of the integers along one line, each one the place of a square on it.

A track is a pair (cuts, rules): the first rule tells about the integers below the first cut, and each further one
about those from its cut on to below the next one.
"""

from evertreads.bits import window
from evertreads.rows import place
from evertreads.rules import EITHER, NEVER, holds, joined, plain, told
from evertreads.searches import holds_any, many_in

NOTHING = ((), ((0, ()),))
# a rule about up to so many integers is told by one node
MOST_WRITTEN = 5040


def track_of(rays):
    """The track of pairs (first, step), each one for first, first + step, first + 2 * step and so on."""
    cuts = sorted(set([first if step > 0 else first + 1 for first, step in rays]))
    return simplified(cuts, [rule_about(rays, number) for number in [cuts[0] - 1] + cuts])


def rule_about(rays, number):
    """The rule of the rays that have begun at the number, if those that go down end behind their first integers."""
    periods = {}
    for first, step in rays:
        if (number - first) * step >= 0:
            period = abs(step)
            periods[period] = periods.get(period, 0) | (1 << (first % period))
    rule = NEVER
    for period in sorted(periods):
        rule = joined(rule, plain(period, periods[period]), EITHER)
    return rule


def simplified(cuts, rules):
    """The track of these cuts and rules, without cuts that part nothing."""
    rules = [written_short(rule, cuts, at) for at, rule in enumerate(rules)]
    parting = [at for at in range(len(cuts)) if rules[at] != rules[at + 1]]
    return tuple([cuts[at] for at in parting]), tuple([rules[0]] + [rules[at + 1] for at in parting])


def written_short(rule, cuts, at):
    """The rule at this index, by one node if it tells about a few integers alone."""
    if len(rule[1]) < 2 or at == 0 or at == len(cuts):
        return rule
    start, length = cuts[at - 1], cuts[at] - cuts[at - 1]
    if length > MOST_WRITTEN:
        return rule
    row = told(rule, start, length)
    return plain(length, window(length, row, -start, length))


def rule_at(track, number):
    cuts, rules = track
    return rules[place(cuts, number + 1)]


def on_track(track, number):
    return holds(rule_at(track, number), number)


def joined_tracks(one, other, truths):
    cuts = sorted(set(one[0] + other[0]))
    rules = [joined(one[1][0], other[1][0], truths)]
    rules.extend([joined(rule_at(one, cut), rule_at(other, cut), truths) for cut in cuts])
    return simplified(cuts, rules)


def endless_track(track):
    rules = track[1]
    return holds_any(rules[0]) or holds_any(rules[-1])


def stretches(track):
    """For each rule between two cuts (rule, first integer, how many)."""
    cuts, rules = track
    return [(rules[at + 1], cuts[at], cuts[at + 1] - cuts[at]) for at in range(len(cuts) - 1)]


def many_on(track):
    """How many integers are on a track that is not endless."""
    return sum([many_in(rule, start, length) for rule, start, length in stretches(track)])


def more_on(track, few):
    """Whether more than so few integers are on the track."""
    if endless_track(track):
        return True
    found = 0
    for rule, start, length in stretches(track):
        found = found + many_in(rule, start, length, few + 1 - found)
        if found > few:
            return True
    return False
