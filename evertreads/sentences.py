"""What the lines of a console say.

A line is read as a tuple of a word and what belongs to it:
("undo",), ("drop", A), ("set", A, row, start, way), ("turned", A, B), ("mirrored", A, B), ("at", A, time),
("on", A, square), ("meets", A, B), and the six claims. A and B are names.
"""

from evertreads.checks import is_name, is_within
from evertreads.claims import PAIR_WORDS, SQUARE_WORDS
from evertreads.limits import GREATEST
from evertreads.steps import is_row, is_way

DIGITS = "0123456789"


def read_line(line):
    """What the line says, None if the value is no line."""
    if not isinstance(line, str):
        return None
    if line == "undo":
        return ("undo",)
    words = line.split(" ")
    if len(words) == 2:
        return ("drop", words[1]) if words[0] == "drop" and is_name(words[1]) else None
    if len(words) < 3 or not is_name(words[0]):
        return None
    if words[1] == "=":
        return read_setting(words[0], words[2:])
    if len(words) > 3:
        return None
    return read_about(words[0], words[1], words[2])


def read_setting(name, words):
    """What stands behind `A =`: `B turned`, `B mirrored`, or `ROW from X,Y to WAY`."""
    if len(words) == 2:
        return (words[1], name, words[0]) if words[1] in ("turned", "mirrored") and is_name(words[0]) else None
    if len(words) < 5 or words[-4] != "from" or words[-2] != "to":
        return None
    row, start, way = " ".join(words[:-4]), read_square(words[-3]), words[-1]
    if not is_row(row) or start is None or not is_way(way):
        return None
    return "set", name, row, start, way


def read_about(name, word, text):
    """A claim or a question about a name."""
    if word == "meets" or word in PAIR_WORDS:
        return (word, name, text) if is_name(text) else None
    place = None
    if word == "at":
        place = read_time(text)
    elif word == "on" or word in SQUARE_WORDS:
        place = read_square(text)
    return (word, name, place) if place is not None else None


def read_integer(text):
    """The integer that is written as `str` writes it, None for any other text."""
    digits = text[1:] if text.startswith("-") else text
    # what is longer is too great, and may be too long for Python to read
    if not 1 <= len(digits) <= len(str(GREATEST)) or not all([sign in DIGITS for sign in digits]):
        return None
    number = int(text)
    return number if str(number) == text and is_within(number, -GREATEST, GREATEST) else None


def read_time(text):
    number = read_integer(text)
    return number if number is not None and number >= 0 else None


def read_square(text):
    """The square that is written as X,Y."""
    numbers = [read_integer(part) for part in text.split(",")]
    if len(numbers) != 2 or numbers[0] is None or numbers[1] is None:
        return None
    return numbers[0], numbers[1]
