"""Drawings that have a given record."""

from crossparity.drawings import Drawing
from crossparity.leads import carries_to

# All points and bends lie on the curve y = x ** 3. Three places of it are on one line exactly if
# their x add up to 0. Here each x is above 0 or that of a far place, which is so far to the left
# that this never happens, so that every drawing is in general position.
#
# Where x > 0 the curve is convex: straight edges between the vertices have the convex record. Seen
# from any far place, the places with x > 0 appear in the order of their x. So a way from a far place
# to shortly before a vertex, to shortly behind it and to another far place goes around this vertex
# and no other one: it pulls the edge over it.
STEP = 100
FAR = 10000
FAR_PLACES = 9


def place_at(x):
    """Return the place of the curve with this x."""
    return x, x ** 3


def x_of_vertex(at):
    """Return the x of the vertex at this index."""
    return STEP * (at + 1)


def far_place(number, visit):
    """Return the far place for this visit of the edge with this number."""
    return place_at(-FAR - FAR_PLACES * number - visit)


def way_around(number, at):
    """Return the bends of the edge with this number around the vertex at this index, up to a far place."""
    x = x_of_vertex(at)
    aside = number + 1
    return [place_at(x - aside), place_at(x + aside), far_place(number, at + 1)]


def bends_over(graph, number, vertices):
    """Return the bends that pull the edge with this number over exactly these vertices."""
    if vertices == []:
        return []
    ends = graph.edges[number]
    low, high = sorted([graph.vertices.index(ends[0]), graph.vertices.index(ends[1])])
    bends = [far_place(number, 0)]
    for at, vertex in enumerate(graph.vertices):
        # The detour by a far place alone already pulls the edge over the vertices between its ends.
        if (vertex in vertices) != (low < at < high):
            bends += way_around(number, at)
    return bends


def draw(graph, record):
    """Return a drawing whose record is the given one."""
    carries = carries_to(graph, record)
    points = {vertex: place_at(x_of_vertex(at)) for at, vertex in enumerate(graph.vertices)}
    lines = {}
    for number, edge in enumerate(graph.edges):
        lines[edge] = bends_over(graph, number, [vertex for pulled, vertex in carries if pulled == edge])
    return Drawing(graph, points, lines)
