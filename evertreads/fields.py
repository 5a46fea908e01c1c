"""Fields: what is held of all squares. A field is a triple (tracks, spots, slopes).

`tracks` is a dict from lines to their tracks, `spots` a dict from single squares to truths, and `slopes` the slopes
of the lines. A square among the spots is in the set if its truth says so, any other one if it is on a track. All
squares on which two of the lines cross are among the spots, so no other square is on more than one line.
"""

from evertreads.lines import crossing, line_through, slope_of, square_on
from evertreads.tracks import (NOTHING, endless_track, joined_tracks, many_on, more_on, on_track, track_of)


def laid(points, rays):
    """The field of squares and of rays (x, y, dx, dy)."""
    rows = {}
    for x, y, dx, dy in rays:
        slope, step = slope_of(dx, dy)
        line, at = line_through((x, y), slope)
        rows.setdefault(line, []).append((at, step))
    tracks = {line: track_of(rows[line]) for line in sorted(list(rows))}
    slopes = slopes_of(tracks)
    spots = {spot: any(tracks_over(tracks, slopes, spot)) for spot in crossings(tracks, tracks)}
    for point in points:
        spots[point] = True
    return settled(tracks, spots)


def slopes_of(tracks):
    return tuple(sorted(set([line[:2] for line in tracks])))


def crossings(tracks, others):
    """The squares on which a line of the one crosses a line of the other."""
    found = [crossing(line, other) for line in tracks for other in others if line[:2] != other[:2]]
    return [square for square in found if square is not None]


def tracks_over(tracks, slopes, square):
    """For each of the lines through the square whether its track has it."""
    found = [line_through(square, slope) for slope in slopes]
    return [on_track(tracks[line], at) for line, at in found if line in tracks]


def settled(tracks, spots):
    """The field, without spots of which a track tells the same."""
    slopes = slopes_of(tracks)
    told = {spot: tracks_over(tracks, slopes, spot) for spot in spots}
    left = {spot: spots[spot] for spot in told if len(told[spot]) > 1 or any(told[spot]) != spots[spot]}
    return tracks, left, slopes


def in_field(field, square):
    tracks, spots, slopes = field
    if square in spots:
        return spots[square]
    return any(tracks_over(tracks, slopes, square))


def joined_fields(one, other, truths):
    """The field of the squares for which the truths say so by the two fields."""
    tracks = {}
    for line in sorted(set(list(one[0]) + list(other[0]))):
        track = joined_tracks(one[0].get(line, NOTHING), other[0].get(line, NOTHING), truths)
        if track != NOTHING:
            tracks[line] = track
    spots = list(one[1]) + list(other[1]) + crossings(one[0], other[0])
    return settled(tracks, {spot: truths[in_field(one, spot)][in_field(other, spot)] for spot in spots})


def endless_field(field):
    tracks = field[0]
    return any([endless_track(tracks[line]) for line in tracks])


def told_by_tracks(field):
    """For each line the number of the spots that its track has."""
    tracks, spots, slopes = field
    found = {line: 0 for line in tracks}
    for spot in spots:
        for slope in slopes:
            line, at = line_through(spot, slope)
            if line in tracks and on_track(tracks[line], at):
                found[line] = found[line] + 1
    return found


def many_in_field(field):
    """How many squares a field has that is not endless."""
    tracks, spots, _ = field
    twice = told_by_tracks(field)
    return (sum([many_on(tracks[line]) - twice[line] for line in tracks])
            + len([spot for spot in spots if spots[spot]]))


def any_in_field(field):
    tracks, spots, _ = field
    if any([spots[spot] for spot in spots]):
        return True
    twice = told_by_tracks(field)
    return any([more_on(tracks[line], twice[line]) for line in tracks])


def near_in_field(field, square, reach):
    """The squares of the field whose x and y differ by at most the reach from those of the square, ascending."""
    tracks, spots, _ = field
    found = [spot for spot in spots if spots[spot] and is_near(spot, square, reach)]
    for line in tracks:
        for at in places_near(line, square, reach):
            spot = square_on(line, at)
            if spot not in spots and is_near(spot, square, reach) and on_track(tracks[line], at):
                found.append(spot)
    return tuple(sorted(found))


def is_near(spot, square, reach):
    return abs(spot[0] - square[0]) <= reach and abs(spot[1] - square[1]) <= reach


def places_near(line, square, reach):
    """The places on the line that are within the reach by their x, or by their y where the line is upright."""
    px, _, x, _ = line
    if px > 0:
        return list(range(-((x - square[0] + reach) // px), (square[0] + reach - x) // px + 1))
    return list(range(square[1] - reach, square[1] + reach + 1))
