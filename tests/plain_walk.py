"""Walks made step by step, and the ground about them filled square by square, to compare the package with."""

MOVES = {"N": (0, 1), "E": (1, 0), "S": (0, -1), "W": (-1, 0)}
TURNS = {"R": 1, "B": 2, "L": 3}

RINGS = ("2 R", "1 R", "3 L", "9 R", "1 B", "5 B 2", "2 R 2 R 2 R 2 R", "3 1 L 2", "4 R 1 R 2", "1 L 1 L 2 R 3",
         "9 9 9 9 9 9 9 R", "7 L 3 R 4 R 1 R", "2 L 7 R 7 L", "2 R 2 B R 7 R", "3 R 2 R 5 R 2 B")
LINES = ("1", "9", "3 1", "2 B 2 B 2", "1 R 1 L 1 R 1 L", "2 B 1 B 2 B 1 B", "5 B 2 B", "1 R 1 L",
         "9 R 9 L", "2 L 2 R R L", "R 1", "B 3 L 2 R")
# treads that come back upon themselves and shut something in, now and then or again and again
COMBS = ("4 L 2 L 2 L 2 L", "4 L 3 L 3 L 3 L", "6 R 3 R 4 R 3 R", "9 R 5 R 3 R 5 R", "8 R 1 R 7 R 1 R",
         "7 B 6 R 5 L 2 B", "9 L 8 L 7 L 9 L", "7 R 5 R 9 R 6 R", "7 R 6 R 9 R 8 R", "9 R 2 R 9 L 2 L",
         "2 L 7 R 3 R 7 L", "2 R 4 R 9 R 2 R", "6 R 7 B 4 L 5 B", "2 B 7 L 6 B 1 R")
STAIRS = ("3 R 3 L", "1 R 2 L", "3 R 3 R 2 R 2 R", "5 R 5 R 4 R 3 R", "4 L 6 L 2 L 3 L", "9 R 9 R 8 R 8 R",
          "9 R 7 R 4 R 8 R", "4 R 4 R 9 R 9 R", "7 L 6 L 9 L 9 L", "9 L 9 L 4 L 5 L", "9 L 9 R 9 R 8 L")
ROWS = RINGS + LINES + COMBS + STAIRS


def walk(row, start, way, steps):
    """The squares at the times from 0 to the number of steps, and the ways of the steps."""
    x, y = start
    squares, ways = [start], []
    while True:
        for order in row.split(" "):
            if order in TURNS:
                way = "NESW"[("NESW".index(way) + TURNS[order]) % 4]
                continue
            for _ in range(int(order)):
                x, y = x + MOVES[way][0], y + MOVES[way][1]
                squares.append((x, y))
                ways.append(way)
                if len(ways) == steps:
                    return squares, ways


def beside(square):
    return [(square[0] + dx, square[1] + dy) for dx, dy in MOVES.values()]


def box_about(squares, margin):
    xs, ys = [x for x, _ in squares], [y for _, y in squares]
    return min(xs) - margin, max(xs) + margin, min(ys) - margin, max(ys) + margin


def rooms(trodden, box):
    """A dict from each square of the box that is not trodden to the tuple of those that hang together with it.

    Where these come to the edge of the box, they are taken for endless, and None is told.
    """
    low, high, bottom, top = box
    found = {}
    for first in [(x, y) for x in range(low, high + 1) for y in range(bottom, top + 1)]:
        if first in trodden or first in found:
            continue
        room, waiting, at_edge = {first}, [first], False
        while waiting:
            x, y = waiting.pop()
            at_edge = at_edge or x in (low, high) or y in (bottom, top)
            for square in beside((x, y)):
                inside = low <= square[0] <= high and bottom <= square[1] <= top
                if inside and square not in trodden and square not in room:
                    room.add(square)
                    waiting.append(square)
        told = None if at_edge else tuple(sorted(room))
        found.update({square: told for square in room})
    return found


def ends_of_lines(trodden):
    """For each column and each line of squares the least and the greatest trodden place in it."""
    found = {}
    for x, y in trodden:
        for line, place in ((("column", x), y), (("line", y), x)):
            least, greatest = found.get(line, (place, place))
            found[line] = min(least, place), max(greatest, place)
    return found


def is_clear(ends, square, way):
    """Whether nothing trodden lies straight ahead."""
    x, y = square
    line, place = (("column", x), y) if way in "NS" else (("line", y), x)
    least, greatest = ends.get(line, (place, place))
    return greatest <= place if way in "NE" else least >= place


def steps_out(trodden, ends, square):
    """How many steps one needs at least to a square from which some way is clear."""
    known, front, steps = {square}, [square], 0
    while not any(is_clear(ends, spot, way) for spot in front for way in "NESW"):
        front = sorted({spot for old in front for spot in beside(old) if spot not in trodden} - known)
        known.update(front)
        steps += 1
    return steps
