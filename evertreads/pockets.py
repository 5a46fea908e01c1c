"""Which lanes of a ground are shut in, and from which place on."""

from evertreads.columns import columns_of, pocket_by_columns
from evertreads.grounds import neighbours
from evertreads.lanes import lane_of, square_in


def pocket(ground, square):
    """The squares that can be reached from this one, which is not trodden, ascending; None if they are endless.

    Who comes to two squares of one lane can come to all of it that lies before them: what leads from the one to the
    other is also untrodden when it is moved back along the drift. So the squares are endless then.
    """
    if ground.shift == (0, 0):
        return pocket_by_columns(columns_of(ground.begun_lanes()), square)
    lane, place = lane_of(square, ground.shift)
    places = {lane: place}
    found = [square]
    at = 0
    while at < len(found):
        here = found[at]
        if ground.is_outside(here):
            return None
        for spot in neighbours(here):
            lane, place = lane_of(spot, ground.shift)
            if ground.is_trodden_at(lane, place):
                continue
            if lane not in places:
                places[lane] = place
                found.append(spot)
            elif places[lane] != place:
                return None
        at += 1
    return tuple(sorted(found))


def lanes_within(ground):
    """The lanes between the outermost trodden squares that hang together with trodden ones."""
    found = list(ground.firsts)
    known = {lane: True for lane in found}
    at = 0
    while at < len(found):
        here = found[at]
        for spot in neighbours(here):
            lane, _ = lane_of(spot, ground.shift)
            if lane not in known and not ground.is_outside(spot):
                known[lane] = True
                found.append(lane)
        at += 1
    return found


def free_lanes(ground, lanes):
    """A dict of those of the lanes that are never trodden, nor shut in, however far along the drift."""
    known = {lane: True for lane in lanes}
    waiting = [lane for lane in lanes if lane not in ground.firsts and leads_outside(ground, lane)]
    free = {lane: True for lane in waiting}
    while len(waiting) > 0:
        here = waiting.pop()
        for spot in neighbours(here):
            lane, _ = lane_of(spot, ground.shift)
            if lane in known and lane not in free and lane not in ground.firsts:
                free[lane] = True
                waiting.append(lane)
    return free


def leads_outside(ground, lane):
    return any([ground.is_outside(spot) for spot in neighbours(lane)])


def last_free_places(ground, lanes, free):
    """For each of the lanes that are not free for ever the last place at which it is neither trodden nor shut in.

    The squares of the lanes become free by their neighbours: first those behind the beginning of all treads, and
    those beside free lanes; then, step by step, what can be reached from them.
    """
    lasts = {lane: last_behind(ground, lane) for lane in lanes if lane not in free}
    for lane in ground.firsts:
        if leads_outside(ground, lane) or any([lane_of(spot, ground.shift)[0] in free for spot in neighbours(lane)]):
            lasts[lane] = ground.firsts[lane] - 1
    waiting = list(lasts)
    while len(waiting) > 0:
        lane = waiting.pop()
        here = square_in(lane, lasts[lane], ground.shift)
        for spot in neighbours(here):
            beside, place = lane_of(spot, ground.shift)
            if beside not in lasts:
                continue
            if beside in ground.firsts:
                place = min(place, ground.firsts[beside] - 1)
            if place > lasts[beside]:
                lasts[beside] = place
                waiting.append(beside)
    return lasts


def last_behind(ground, lane):
    """The last place of the lane that lies behind all trodden squares, as seen along the drift."""
    dx, dy = ground.shift
    least = min([x * dx + y * dy for x, y in ground.begun_lanes()])
    return (least - 1 - lane[0] * dx - lane[1] * dy) // (dx * dx + dy * dy)


def shut_stretches(ground):
    """Triples (lane, first place, place behind the last one or None) of the squares that are shut in."""
    lanes = lanes_within(ground)
    free = free_lanes(ground, lanes)
    if ground.shift == (0, 0):
        return [(lane, 0, 1) for lane in lanes if lane not in free and lane not in ground.firsts]
    lasts = last_free_places(ground, lanes, free)
    return [(lane, lasts[lane] + 1, ground.firsts.get(lane)) for lane in lasts
            if lane not in ground.firsts or lasts[lane] + 1 < ground.firsts[lane]]
