"""Sets of squares worked out the slow and plain way, to compare those of the package with."""


def in_part(square, part):
    if len(part) == 2:
        return square == part
    (x, y), (first, up, dx, dy) = square, part
    if dx == 0:
        return x == first and (y - up) % dy == 0 and (y - up) // dy >= 0
    many, rest = divmod(x - first, dx)
    return rest == 0 and many >= 0 and y == up + many * dy


def held(square, parts):
    return any(in_part(square, part) for part in parts)


def members(parts, edge):
    """The squares of the parts with x and y from -edge to edge; the parts begin there."""
    found = set()
    for part in parts:
        x, y, dx, dy = (*part, 0, 0)[:4]
        while abs(x) <= edge and abs(y) <= edge:
            found.add((x, y))
            if dx == dy == 0:
                break
            x, y = x + dx, y + dy
    return found


def joinings(one, other):
    """For each sign the set that the package returns, and the truth that it stands for."""
    return ((one & other, lambda p, q: p and q), (one | other, lambda p, q: p or q),
            (one - other, lambda p, q: p and not q))


def laws(a, b, c):
    """Pairs of sets that are equal by the rules of sets."""
    return ((a & b, b & a), (a | b, b | a), ((a & b) & c, a & (b & c)), ((a | b) | c, a | (b | c)),
            (a & (b | c), (a & b) | (a & c)), (a | (b & c), (a | b) & (a | c)), (a - (b | c), (a - b) - c),
            (a - (b & c), (a - b) | (a - c)), ((a - b) | (a & b), a), ((a | b) - b, a - b), (a & (a | b), a),
            (a | (a & b), a), (a - (a - b), a & b), ((a - b) & b, a - a), ((a - b) | (b - a), (a | b) - (a & b)),
            (a & a, a), (a | a, a))
