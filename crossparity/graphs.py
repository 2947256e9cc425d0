"""Graphs, the pairs of their edges without a common vertex, and records of such pairs."""

from crossparity.errors import NoGraph, NoRecord

LETTERS = "abcdefghijklmnopqrstuvwxyz"
LONGEST_NAME = 8
MOST_VERTICES = 8
MOST_EDGES = 18


class Graph:
    """A graph: its vertices in the order passed, and its edges in ascending order."""

    def __init__(self, vertices, edges):
        if not are_vertices(vertices):
            raise NoGraph("vertices")
        if not are_edges(vertices, edges):
            raise NoGraph("edges")
        self.vertices = tuple(vertices)
        self.edges = tuple(sorted(edges))

    def __eq__(self, other):
        return isinstance(other, Graph) and self.vertices == other.vertices and self.edges == other.edges


def are_apart(one, other):
    """Tell whether two edges have no vertex in common."""
    return one[0] not in other and one[1] not in other


def pairs(graph):
    """Return the sorted list of all pairs of the graph."""
    found = []
    for at, one in enumerate(graph.edges):
        for other in graph.edges[at + 1:]:
            if are_apart(one, other):
                found.append((one, other))
    return found


def with_edge(graph, edge):
    """Return the graph with an additional edge."""
    return Graph(graph.vertices, [*graph.edges, edge])


def without_edge(graph, edge):
    """Return the graph without one of its edges."""
    return Graph(graph.vertices, [other for other in graph.edges if other != edge])


def neighbours(graph, vertex):
    """Return the sorted list of the vertices that an edge joins to this one."""
    return sorted([low if high == vertex else high for low, high in graph.edges if vertex in (low, high)])


# The functions below take values of any kind. They ask for the kind of a value before they
# compare or look it up, because comparing or hashing a foreign object may fail or mislead.


def is_row(value):
    """Tell whether a value is a list or a tuple."""
    return isinstance(value, (list, tuple))


def is_couple(value):
    """Tell whether a value is a tuple of exactly two items."""
    return isinstance(value, tuple) and len(value) == 2


def is_name(value):
    """Tell whether a value is a string of one to eight lowercase letters."""
    if not isinstance(value, str) or len(value) == 0 or len(value) > LONGEST_NAME:
        return False
    return all([letter in LETTERS for letter in value])


def are_vertices(value):
    """Tell whether a value is a row of one to eight distinct names."""
    if not is_row(value) or len(value) == 0 or len(value) > MOST_VERTICES:
        return False
    return all([is_name(name) for name in value]) and len(set(value)) == len(value)


def are_edges(vertices, value):
    """Tell whether a value is a row of at most eighteen distinct edges between these vertices."""
    if not is_row(value) or len(value) > MOST_EDGES:
        return False
    return all([joins(vertices, edge) for edge in value]) and len(set(value)) == len(value)


def is_among(vertices, value):
    """Tell whether a value is one of these vertices."""
    return isinstance(value, str) and value in vertices


def joins(vertices, value):
    """Tell whether a value has the form of an edge between two of these vertices."""
    if not is_couple(value):
        return False
    low, high = value
    return is_among(vertices, low) and is_among(vertices, high) and low < high


def is_edge(graph, value):
    """Tell whether a value is an edge of the graph."""
    return joins(graph.vertices, value) and value in graph.edges


def is_pair(graph, value):
    """Tell whether a value is a pair of the graph."""
    if not is_couple(value):
        return False
    one, other = value
    return is_edge(graph, one) and is_edge(graph, other) and one < other and are_apart(one, other)


def check_record(graph, value):
    """Raise NoRecord unless a value is a record of the graph."""
    if not is_row(value):
        raise NoRecord(-1)
    seen = set()
    for at, pair in enumerate(value):
        if not is_pair(graph, pair) or pair in seen:
            raise NoRecord(at)
        seen.add(pair)


def is_record(graph, value):
    """Tell whether a value of any kind is a record of the graph."""
    try:
        check_record(graph, value)
    except NoRecord:
        return False
    return True
