"""Claims about the walkers of a yard, as tuples (word, name, name) or (word, name, square)."""

from evertreads.checks import is_square
from evertreads.facts import are_apart, never_meet, shuts_in, treads, treads_within

PAIR_WORDS = ("apart", "never", "within")
SQUARE_WORDS = ("free", "treads", "shut")


def is_claim(value):
    """Whether the value has the form of a claim, whatever stands in the places of the names."""
    if not isinstance(value, tuple) or len(value) != 3 or not isinstance(value[0], str):
        return False
    return value[0] in PAIR_WORDS or (value[0] in SQUARE_WORDS and is_square(value[2]))


def names_in(claim):
    """The tuple of what stands in the places of the names, from the left."""
    return claim[1:] if claim[0] in PAIR_WORDS else claim[1:2]


def is_so(claim, named):
    """Whether the claim stands for the walkers of a dict from names."""
    word, name, _ = claim
    if word in PAIR_WORDS:
        return is_so_of_pair(word, named[name], named[claim[2]])
    return is_so_of_square(word, named[name], claim[2])


def is_so_of_pair(word, walker, other):
    if word == "apart":
        return are_apart(walker, other)
    if word == "never":
        return never_meet(walker, other)
    return treads_within(walker, other)


def is_so_of_square(word, walker, square):
    if word == "shut":
        return shuts_in(walker, square)
    return treads(walker, square) == (word == "treads")


def first_naming(claims, name):
    """The index of the first claim that names the name, None if there is none."""
    for at, claim in enumerate(claims):
        if name in names_in(claim):
            return at
    return None


def first_failing(claims, name, named):
    """The index of the first claim about the name that fails for the walkers, None if there is none."""
    for at, claim in enumerate(claims):
        if name in names_in(claim) and not is_so(claim, named):
            return at
    return None
