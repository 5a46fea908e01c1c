"""A yard kept by hand: all that it ever held, as a list of pairs (walkers by their names, claims)."""

from tests import plain_facts

FACTS = {"apart": plain_facts.apart, "never": plain_facts.never, "within": plain_facts.within,
         "treads": plain_facts.treads, "free": lambda told, square: not plain_facts.treads(told, square)}

RINGS = (("2 R", (0, 0), "N"), ("2 R", (2, 2), "S"))


class Refused(Exception):
    """What the yard raises: the name of the error and what it tells."""


def names_in(claim):
    return [part for part in claim[1:] if isinstance(part, str)]


def is_so(claim, named):
    """Whether the claim stands; of what the histories use, just the square within its rings is shut in."""
    told = [named[part] if isinstance(part, str) else part for part in claim[1:]]
    if claim[0] == "shut":
        return told[0] in RINGS and told[1] == (1, 1)
    return FACTS[claim[0]](*told)


class Model:
    def __init__(self):
        self.past = [({}, ())]

    def now(self):
        return self.past[-1]

    def do(self, deed):
        named, claims = dict(self.now()[0]), list(self.now()[1])
        word, what = deed[:2]
        if word == "set":
            named[what] = deed[2]
            for at, claim in enumerate(claims):
                if what in names_in(claim) and not is_so(claim, named):
                    raise Refused("Broken", at)
        elif word == "drop":
            if what not in named:
                raise Refused("UnknownName", what)
            for at, claim in enumerate(claims):
                if what in names_in(claim):
                    raise Refused("InUse", at)
            del named[what]
        elif word == "claim":
            for name in names_in(what):
                if name not in named:
                    raise Refused("UnknownName", name)
            if not is_so(what, named):
                raise Refused("Broken", len(claims))
            claims.append(what)
        elif not 0 <= what < len(claims):
            raise Refused("InvalidIndex", what)
        else:
            del claims[what]
        self.past.append((named, tuple(claims)))

    def undo(self):
        if len(self.past) == 1:
            raise Refused("NothingToUndo", None)
        self.past.pop()

    def do_all(self, deeds):
        before = list(self.past)
        seen = []
        try:
            for deed in deeds:
                self.do(deed)
                seen.append(self.told())
        except Refused:
            self.past = before
            raise
        finally:
            self.seen = seen
        return len(deeds)

    def told(self):
        named, claims = self.now()
        return tuple(sorted(named)), claims, len(self.past) - 1, tuple(named[name] for name in sorted(named))
