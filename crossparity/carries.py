"""Carries, which pull an edge over a vertex, and the records that they lead to."""

from crossparity.errors import NoCarry, NoOrder
from crossparity.graphs import are_apart, check_record, is_among, is_couple, is_edge, is_row, pairs


def is_carry(graph, value):
    """Tell whether a value of any kind is a carry of the graph."""
    if not is_couple(value):
        return False
    edge, vertex = value
    return is_edge(graph, edge) and is_among(graph.vertices, vertex) and vertex not in edge


def every_carry(graph):
    """Return the sorted list of all carries of the graph."""
    vertices = sorted(graph.vertices)
    return [(edge, vertex) for edge in graph.edges for vertex in vertices if vertex not in edge]


def check_carries(graph, value):
    """Raise NoCarry unless a value is a row of carries of the graph."""
    if not is_row(value):
        raise NoCarry(-1)
    for at, carry in enumerate(value):
        if not is_carry(graph, carry):
            raise NoCarry(at)


def is_order(graph, value):
    """Tell whether a value is a row that contains each vertex of the graph exactly once and nothing else."""
    if not is_row(value) or len(value) != len(graph.vertices):
        return False
    return all([is_among(graph.vertices, vertex) for vertex in value]) and len(set(value)) == len(value)


def flips_of(graph, carry):
    """Return the sorted list of the pairs that a carry, known to be one, flips."""
    edge, vertex = carry
    crossed = [other for other in graph.edges if vertex in other and are_apart(edge, other)]
    # The edges are sorted, so the pairs with smaller ones come first, and all are in ascending order.
    return [(other, edge) if other < edge else (edge, other) for other in crossed]


def flipped(graph, carry):
    """Return the sorted list of the pairs that a carry flips."""
    if not is_carry(graph, carry):
        raise NoCarry(0)
    return flips_of(graph, carry)


def carried(graph, record, carries):
    """Return the record that results from executing a row of carries."""
    check_record(graph, record)
    check_carries(graph, carries)
    held = {pair: False for pair in pairs(graph)}
    for pair in record:
        held[pair] = True
    for carry in carries:
        for pair in flips_of(graph, carry):
            held[pair] = not held[pair]
    return [pair for pair in pairs(graph) if held[pair]]


def convex(graph, order):
    """Return the record of the straight drawing with the vertices on a circle in this order."""
    if not is_order(graph, order):
        raise NoOrder()
    places = {vertex: at for at, vertex in enumerate(order)}
    return [pair for pair in pairs(graph) if alternates(places, pair)]


def alternates(places, pair):
    """Tell whether the ends of the two edges of a pair alternate on the circle."""
    one, other = pair
    low, high = sorted([places[one[0]], places[one[1]]])
    inside = [end for end in other if low < places[end] < high]
    return len(inside) == 1
