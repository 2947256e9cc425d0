"""Straight drawings of planar graphs without crossings."""

from crossparity.drawings import Drawing
from crossparity.graphs import neighbours
from crossparity.planarity import filled

CORNERS = ((0, 0), (1, 0), (0, 1))


def triangles(graph):
    """Return all triples of vertices that are joined to each other, each in ascending order."""
    found = []
    for low, high in graph.edges:
        found += [[low, high, top] for top in neighbours(graph, high) if high < top and (low, top) in graph.edges]
    return found


def is_connected(graph, vertices):
    """Tell whether paths inside these vertices, at least one, join each of them to each other one."""
    reached = [vertices[0]]
    done = 0
    while done < len(reached):
        near = neighbours(graph, reached[done])
        fresh = [vertex for vertex in near if vertex in vertices and vertex not in reached]
        reached += fresh
        done += 1
    return len(reached) == len(vertices)


def without(graph, vertices):
    """Return the vertices of the graph that are not among these."""
    return [vertex for vertex in graph.vertices if vertex not in vertices]


def border(full):
    """Return the vertices of a face of a graph to which no edge can be added, to be its border.

    Such a graph with four or more vertices has only one way to lie in the plane, in which a
    triangle with vertices on both sides of it separates them, and a face separates nothing.
    """
    if len(full.vertices) <= len(CORNERS):
        return list(full.vertices)
    return [face for face in triangles(full) if is_connected(full, without(full, face))][0]


def determinant(rows):
    """Return the determinant of a square matrix of integers."""
    if rows == []:
        return 1
    total = 0
    for at, value in enumerate(rows[0]):
        part = value * determinant([row[:at] + row[at + 1:] for row in rows[1:]]) if value != 0 else 0
        total += part if at % 2 == 0 else -part
    return total


def with_column(rows, at, column):
    """Return a matrix with another column at this index."""
    return [row[:at] + [value] + row[at + 1:] for row, value in zip(rows, column)]


def balance(full, inner):
    """Return the matrix that, with the places of the border, puts each inner vertex amid its neighbours."""
    rows = []
    for vertex in inner:
        near = neighbours(full, vertex)
        rows.append([len(near) if other == vertex else -1 if other in near else 0 for other in inner])
    return rows


def pulls(full, inner, outer, axis):
    """Return, for each inner vertex, the sum of one coordinate of its neighbours at the border."""
    corners = {vertex: corner[axis] for vertex, corner in zip(outer, CORNERS)}
    return [sum([corners[near] for near in neighbours(full, vertex) if near in outer]) for vertex in inner]


def balanced(full):
    """Return points for a graph to which no edge can be added, such that straight edges do not cross.

    By a theorem of Tutte they do not if the border is a triangle and each other vertex lies at the
    mean of its neighbours. By Cramer's rule, the determinant makes all of these places integers.
    """
    outer = border(full)
    inner = without(full, outer)
    rows = balance(full, inner)
    scale = determinant(rows)
    points = {vertex: (scale * x, scale * y) for vertex, (x, y) in zip(outer, CORNERS)}
    across, up = [pulls(full, inner, outer, axis) for axis in (0, 1)]
    for at, vertex in enumerate(inner):
        points[vertex] = (determinant(with_column(rows, at, across)), determinant(with_column(rows, at, up)))
    return points


def straight(graph):
    """Return a drawing of a planar graph without bends and crossings."""
    return Drawing(graph, balanced(filled(graph)), {edge: [] for edge in graph.edges})
