"""Pockets among finitely many squares, found by columns.

A gap is a row of squares in one column with nothing trodden among them and a trodden square at both ends, told as a
triple (x, lowest y, highest y). What hangs together is found gap by gap, as a closed walker can shut in thousands of
squares.
"""

from evertreads.rows import place


def columns_of(squares):
    """A dict from each x to the ascending list of the y of the squares with it."""
    found = {}
    for x, y in sorted(squares):
        found.setdefault(x, []).append(y)
    return found


def gap_about(columns, square):
    """The gap with the square, which is not trodden; None if its row in the column is endless."""
    x, y = square
    trodden = columns.get(x, ())
    at = place(trodden, y)
    if at == 0 or at == len(trodden):
        return None
    return x, trodden[at - 1] + 1, trodden[at] - 1


def gaps_beside(columns, x, low, high):
    """The gaps in the column x that have squares from low to high, None in the place of an endless row."""
    found = []
    trodden = columns.get(x, ())
    y = low
    while y <= high:
        at = place(trodden, y)
        if at < len(trodden) and trodden[at] == y:
            y += 1
            continue
        found.append(gap_about(columns, (x, y)))
        y = trodden[at] + 1 if at < len(trodden) else high + 1
    return found


def pocket_by_columns(columns, square):
    """The squares that can be reached from this one, which is not trodden, ascending; None if they are endless."""
    first = gap_about(columns, square)
    known = {first: True}
    found = [first]
    at = 0
    while at < len(found):
        if found[at] is None:
            return None
        x, low, high = found[at]
        for gap in gaps_beside(columns, x - 1, low, high) + gaps_beside(columns, x + 1, low, high):
            if gap not in known:
                known[gap] = True
                found.append(gap)
        at += 1
    return tuple([(x, y) for x, low, high in sorted(found) for y in range(low, high + 1)])
