"""Drawings of graphs by polylines, the crossings of their edges, and their records."""

from crossparity.errors import NoDrawing, NoEdge
from crossparity.graphs import is_among, is_couple, is_edge, is_row, pairs

MOST_BENDS = 60
FARTHEST = 10 ** 30


class Drawing:
    """A drawing in general position: its graph, the points of the vertices and the bends of the edges."""

    def __init__(self, graph, points, lines):
        if not are_points(graph, points):
            raise NoDrawing("points")
        if not are_lines(graph, lines):
            raise NoDrawing("lines")
        if not are_in_general_position(graph, points, lines):
            raise NoDrawing("position")
        self.graph = graph
        self.points = {vertex: points[vertex] for vertex in graph.vertices}
        self.lines = {edge: tuple(lines[edge]) for edge in graph.edges}

    def __eq__(self, other):
        if not isinstance(other, Drawing):
            return False
        return self.graph == other.graph and self.points == other.points and self.lines == other.lines


# The next functions take values of any kind, as their counterparts in crossparity.graphs do.


def is_coordinate(value):
    """Tell whether a value is an integer within the bounds."""
    return isinstance(value, int) and not isinstance(value, bool) and abs(value) <= FARTHEST


def is_place(value):
    """Tell whether a value has the form of a point or a bend."""
    return is_couple(value) and is_coordinate(value[0]) and is_coordinate(value[1])


def are_points(graph, value):
    """Tell whether a value is a dict with a point for each vertex of the graph and nothing else."""
    if not isinstance(value, dict) or len(value) != len(graph.vertices):
        return False
    return all([is_among(graph.vertices, key) and is_place(place) for key, place in value.items()])


def are_bends(value):
    """Tell whether a value is a row of at most sixty bends."""
    return is_row(value) and len(value) <= MOST_BENDS and all([is_place(bend) for bend in value])


def are_lines(graph, value):
    """Tell whether a value is a dict with a row of bends for each edge of the graph and nothing else."""
    if not isinstance(value, dict) or len(value) != len(graph.edges):
        return False
    return all([is_edge(graph, key) and are_bends(bends) for key, bends in value.items()])


def path_of(points, lines, edge):
    """Return the points and bends of the polyline of an edge, in order."""
    return [points[edge[0]]] + list(lines[edge]) + [points[edge[1]]]


def offsets(start, end, places):
    """Return a number for each place: above 0 to the left of the line from start to end, 0 on it."""
    across = end[0] - start[0]
    up = end[1] - start[1]
    level = across * start[1] - up * start[0]
    return [across * y - up * x - level for x, y in places]


def others_in_box(start, end, places):
    """Return the places in the box around a segment, without the ends of the segment."""
    left, right = sorted([start[0], end[0]])
    low, high = sorted([start[1], end[1]])
    boxed = [(x, y) for x, y in places if left <= x <= right and low <= y <= high]
    return [place for place in boxed if place != start and place != end]


def are_in_general_position(graph, points, lines):
    """Tell whether all points and bends are distinct and none lies on a segment of which it is not an end."""
    places = [points[vertex] for vertex in graph.vertices]
    for edge in graph.edges:
        places += list(lines[edge])
    if len(set(places)) != len(places):
        return False
    for edge in graph.edges:
        path = path_of(points, lines, edge)
        for start, end in zip(path, path[1:]):
            # On the line and in the box means on the segment. The box goes first, as it is cheaper.
            if 0 in offsets(start, end, others_in_box(start, end, places)):
                return False
    return True


def are_opposite(one, other):
    """Tell whether of two numbers one is above 0 and the other one below."""
    return one < 0 < other or other < 0 < one


def hits(start, end, path):
    """Return the number of segments of a path that cross the segment from start to end."""
    found = 0
    sides = offsets(start, end, path)
    for at, corner in enumerate(path[1:]):
        if are_opposite(sides[at], sides[at + 1]):
            here, there = offsets(path[at], corner, [start, end])
            if are_opposite(here, there):
                found += 1
    return found


def crossings(drawing, one, other):
    """Return the number of pairs of a segment of one edge and a segment of the other one that cross."""
    if not is_edge(drawing.graph, one):
        raise NoEdge(one)
    if not is_edge(drawing.graph, other) or one == other:
        raise NoEdge(other)
    first = path_of(drawing.points, drawing.lines, one)
    second = path_of(drawing.points, drawing.lines, other)
    return sum([hits(start, end, second) for start, end in zip(first, first[1:])])


def record_of(drawing):
    """Return the record of a drawing: the pairs that cross an odd number of times."""
    return [(one, other) for one, other in pairs(drawing.graph) if crossings(drawing, one, other) % 2 == 1]
