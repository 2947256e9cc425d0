"""Crossings and positions in drawings, worked out without the program."""

import itertools


def path_of(drawing, edge):
    return [drawing.points[edge[0]], *drawing.lines[edge], drawing.points[edge[1]]]


def segments_of(drawing, edge):
    path = path_of(drawing, edge)
    return list(zip(path, path[1:]))


def cross(one, other):
    return one[0] * other[1] - one[1] * other[0]


def away(start, end):
    return end[0] - start[0], end[1] - start[1]


def is_proper_fraction(part, whole):
    """Whether part / whole lies between 0 and 1."""
    return 0 < part < whole or whole < part < 0


def meet(a, b, c, d):
    """Whether two segments of a drawing cross: where the lines meet, as fractions of both segments."""
    turn = cross(away(a, b), away(c, d))
    if turn == 0:
        return False
    first = cross(away(a, c), away(c, d))
    second = cross(away(a, c), away(a, b))
    return is_proper_fraction(first, turn) and is_proper_fraction(second, turn)


def crossings_by_definition(drawing, one, other):
    found = itertools.product(segments_of(drawing, one), segments_of(drawing, other))
    return sum(meet(*start, *end) for start, end in found)


def record_by_definition(drawing):
    """The record of a drawing, with the pairs found once more as well."""
    apart = [(e, f) for e, f in itertools.combinations(drawing.graph.edges, 2) if not set(e) & set(f)]
    return sorted(pair for pair in apart if crossings_by_definition(drawing, *pair) % 2 == 1)


def lies_on(place, start, end):
    """Whether a place lies on a segment, its ends included: on the line, and not outside of either end."""
    if cross(away(start, end), away(start, place)) != 0:
        return False
    back, forth = away(place, start), away(place, end)
    return back[0] * forth[0] + back[1] * forth[1] <= 0


def is_general(drawing):
    """Whether a drawing is in general position."""
    places = [*drawing.points.values(), *(bend for bends in drawing.lines.values() for bend in bends)]
    segments = [segment for edge in drawing.graph.edges for segment in segments_of(drawing, edge)]
    touched = any(lies_on(place, *ends) for ends in segments for place in places if place not in ends)
    return len(set(places)) == len(places) and not touched
