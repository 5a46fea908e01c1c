"""A console that changes a yard, and asks about it, by lines of text."""

from evertreads.errors import InvalidText
from evertreads.meeting import meeting
from evertreads.sentences import read_line
from evertreads.walkers import Walker
from evertreads.yards import Yard


class Console:
    """Keeps a yard, and does with it what lines say."""

    def __init__(self):
        self._yard = Yard()

    @property
    def yard(self):
        return self._yard

    def say(self, line):
        """Do what the line says, and answer it."""
        said = read_line(line)
        if said is None:
            raise InvalidText(line)
        return answer(self._yard, said)


def answer(yard, said):
    """Do what was said, and tell the text about it. The yard is asked for the names in their order, so it refuses the
    first one that it does not have."""
    word = said[0]
    if word in ("set", "turned", "mirrored"):
        yard[said[1]] = walker_said(yard, said)
        return str(yard[said[1]])
    if word in ("at", "on", "meets"):
        return answer_asked(yard, said)
    if word == "undo":
        yard.undo()
    elif word == "drop":
        yard.drop(said[1])
    else:
        yard.claim(said)
    return "ok"


def walker_said(yard, said):
    """The walker to which a name is set."""
    if said[0] == "turned":
        return yard[said[2]].turned()
    if said[0] == "mirrored":
        return yard[said[2]].mirrored()
    return Walker(said[2], said[3], said[4])


def answer_asked(yard, said):
    """The answer to a question."""
    word, walker = said[0], yard[said[1]]
    if word == "at":
        x, y = walker.at(said[2])
        return f"{x},{y}"
    if word == "on":
        many = walker.times(said[2]).many
        return "endless" if many is None else str(many)
    time = meeting(walker, yard[said[2]]).first
    return "never" if time is None else str(time)
