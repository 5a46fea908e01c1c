"""Yards: walkers under names, and claims about them that never fail."""

from evertreads.checks import is_name, is_within
from evertreads.claims import first_failing, first_naming, is_claim, is_so, names_in
from evertreads.errors import (Broken, InUse, InvalidClaim, InvalidDeeds, InvalidIndex, InvalidName, NotAWalker,
                               NothingToUndo, UnknownName)
from evertreads.walkers import Walker

# how long a deed of each word is
LENGTHS = {"set": 3, "drop": 2, "claim": 2, "lift": 2}


class State:
    """What a yard holds, and its state ahead of the last change. No state is ever changed, so it can be gone back to.

    `named` is a dict from the names to their walkers, `told` the tuple of the claims.
    """

    def __init__(self, named, told, before):
        self.named = named
        self.told = told
        self.before = before
        self.depth = 0 if before is None else before.depth + 1


class Yard:
    """Walkers under names, and claims about them that hold for all times and all squares."""

    def __init__(self):
        self._state = State({}, (), None)

    @property
    def names(self):
        return tuple(sorted(list(self._state.named)))

    @property
    def claims(self):
        return self._state.told

    @property
    def changes(self):
        return self._state.depth

    def __len__(self):
        return len(self._state.named)

    def __contains__(self, name):
        return is_name(name) and name in self._state.named

    def __iter__(self):
        raise TypeError("a yard is not iterated over")

    def __getitem__(self, name):
        if name not in self:
            raise UnknownName(name)
        return self._state.named[name]

    def __setitem__(self, name, walker):
        if not is_name(name):
            raise InvalidName(name)
        if not isinstance(walker, Walker):
            raise NotAWalker(walker)
        named = dict(self._state.named)
        named[name] = walker
        at = first_failing(self._state.told, name, named)
        if at is not None:
            raise Broken(at)
        self._state = State(named, self._state.told, self._state)

    def drop(self, name):
        """Take the name away with its walker."""
        if name not in self:
            raise UnknownName(name)
        at = first_naming(self._state.told, name)
        if at is not None:
            raise InUse(at)
        named = dict(self._state.named)
        del named[name]
        self._state = State(named, self._state.told, self._state)

    def claim(self, claim):
        """Claim what must be so from now on."""
        if not is_claim(claim):
            raise InvalidClaim(claim)
        for name in names_in(claim):
            if name not in self:
                raise UnknownName(name)
        told = self._state.told
        if not is_so(claim, self._state.named):
            raise Broken(len(told))
        self._state = State(self._state.named, told + (claim,), self._state)

    def lift(self, index):
        """Take the claim with this index away."""
        told = self._state.told
        if not is_within(index, 0, len(told) - 1):
            raise InvalidIndex(index)
        self._state = State(self._state.named, told[:index] + told[index + 1:], self._state)

    def undo(self):
        """Take back the last change that was not taken back."""
        if self._state.before is None:
            raise NothingToUndo()
        self._state = self._state.before

    def do_all(self, *deeds, watch=None):
        """Do all of the deeds or none, and tell how many they are."""
        for at, deed in enumerate(deeds):
            if not is_deed(deed):
                raise InvalidDeeds(at)
        # the yard comes back to this in the end, whatever error comes out, also one of watch
        state = self._state
        try:
            for deed in deeds:
                do_deed(self, deed)
                if watch is not None:
                    watch(self)
            state = self._state
        finally:
            self._state = state
        return len(deeds)

    def trial(self):
        """What a `with` statement enters so that the yard is behind it as it was ahead of it."""
        return Trial(self)

    def tried(self, work):
        """What the function returns for the yard, which is as it was behind the call."""
        with self.trial() as yard:
            return work(yard)


def is_deed(value):
    """Whether the value is a deed, whatever stands behind its word."""
    return (isinstance(value, tuple) and len(value) > 0 and isinstance(value[0], str)
            and LENGTHS.get(value[0]) == len(value))


def do_deed(yard, deed):
    word = deed[0]
    if word == "set":
        yard[deed[1]] = deed[2]
    elif word == "drop":
        yard.drop(deed[1])
    elif word == "claim":
        yard.claim(deed[1])
    else:
        yard.lift(deed[1])


class Kept:
    """The state of a yard when a trial was entered, and what this trial already kept before that."""

    def __init__(self, held, below):
        self.held = held
        self.below = below


class Trial:
    """Gives a yard its state back; entered within itself it keeps a state for each time."""

    def __init__(self, yard):
        self._yard = yard
        self._kept = None

    def __enter__(self):
        self._kept = Kept(self._yard._state, self._kept)
        return self._yard

    def __exit__(self, kind, value, trace):
        yard = self._yard
        yard._state = self._kept.held
        self._kept = self._kept.below
