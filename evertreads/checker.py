"""Checks claims about walkers by their certificates."""

from evertreads.checks import is_integer, is_pair, is_square, is_time
from evertreads.facts import are_apart, never_meet, treads, treads_within
from evertreads.grounds import ground_of, is_clear, neighbours, outlook
from evertreads.steps import is_row, is_way
from evertreads.walkers import Walker, square_at, to_start

# what stands behind the word of each claim
FORMS = {
    "stands": ("walker", "time", "square"),
    "treads": ("walker", "square"),
    "free": ("walker", "square"),
    "meet": ("walker", "walker", "time"),
    "never": ("walker", "walker"),
    "apart": ("walker", "walker"),
    "within": ("walker", "walker"),
    "shut": ("walker", "square"),
    "open": ("walker", "square"),
}


def accepts(claim, certificate):
    """Whether the two are a claim and a certificate for it, and what is told there is so."""
    if not is_claim(claim):
        return False
    word, told = claim[:2]
    walker = Walker(told[0], told[1], told[2])
    if word == "treads":
        return stands_at_last(walker, claim[2], certificate)
    if word == "shut":
        return holds_in(walker, claim[2], certificate)
    if word == "open":
        return leads_out(walker, claim[2], certificate)
    return isinstance(certificate, tuple) and len(certificate) == 0 and is_so_at_once(word, walker, claim[2:])


def is_claim(value):
    """Whether the value has the form of a claim."""
    if not isinstance(value, tuple) or len(value) == 0 or not isinstance(value[0], str):
        return False
    kinds = FORMS.get(value[0])
    if kinds is None or len(value) != 1 + len(kinds):
        return False
    return all([is_of_kind(kind, part) for kind, part in zip(kinds, value[1:])])


def is_of_kind(kind, value):
    if kind == "walker":
        return is_told_walker(value)
    if kind == "time":
        return is_time(value)
    return is_square(value)


def is_told_walker(value):
    """Whether the value is a tuple (row, start, way)."""
    if not isinstance(value, tuple) or len(value) != 3:
        return False
    return is_row(value[0]) and is_square(value[1]) and is_way(value[2])


def is_so_at_once(word, walker, rest):
    """Whether a claim is so that has an empty certificate; the rest is what it tells behind its first walker."""
    if word == "stands":
        return square_at(walker, rest[0]) == rest[1]
    if word == "free":
        return not treads(walker, rest[0])
    other = Walker(rest[0][0], rest[0][1], rest[0][2])
    if word == "meet":
        return square_at(walker, rest[1]) == square_at(other, rest[1])
    if word == "never":
        return never_meet(walker, other)
    if word == "apart":
        return are_apart(walker, other)
    return treads_within(walker, other)


def stands_at_last(walker, square, certificate):
    """Whether the certificate is a time of any size at which the walker stands on the square."""
    return is_integer(certificate) and certificate >= 0 and square_at(walker, certificate) == square


def are_pairs(value):
    return isinstance(value, tuple) and all([is_pair(spot) for spot in value])


def ascend(spots):
    return all([spots[at] < spots[at + 1] for at in range(len(spots) - 1)])


def holds_in(walker, square, certificate):
    """Whether the certificate tells squares with this one that nobody can leave without crossing the treads."""
    if not are_pairs(certificate) or not ascend(certificate):
        return False
    offsets = [to_start(walker, spot) for spot in certificate]
    known = {offset: True for offset in offsets}
    if to_start(walker, square) not in known:
        return False
    ground = ground_of(walker)
    if any([ground.is_trodden(offset) for offset in offsets]):
        return False
    edge = [beside for offset in offsets for beside in neighbours(offset) if beside not in known]
    return all([ground.is_trodden(beside) for beside in edge])


def leads_out(walker, square, certificate):
    """Whether the certificate tells a row of squares from this one on, and a way to go on for ever behind them."""
    if not isinstance(certificate, tuple) or len(certificate) != 2:
        return False
    squares, way = certificate
    if not are_pairs(squares) or not is_way(way) or squares[:1] != (square,):
        return False
    if not all([squares[at + 1] in neighbours(squares[at]) for at in range(len(squares) - 1)]):
        return False
    ground = ground_of(walker)
    offsets = [to_start(walker, spot) for spot in squares]
    if any([ground.is_trodden(offset) for offset in offsets]):
        return False
    return is_clear(outlook(ground, way), offsets[-1])
