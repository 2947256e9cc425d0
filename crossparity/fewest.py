"""The fewest pairs that a record of a drawing has, and records of a graph with fewer or more edges."""

from crossparity.carries import carried, convex
from crossparity.errors import NoEdge, NoMost
from crossparity.graphs import MOST_EDGES, Graph, check_record, is_edge, is_row, joins, pairs, with_edge
from crossparity.leads import basis_of, bits_of, carries_to, number_of, reduced

MOST = 3


def is_most(value):
    """Tell whether a value of any kind is an integer from 0 to 3."""
    return isinstance(value, int) and not isinstance(value, bool) and 0 <= value <= MOST


def first_choice(rests, at, many, goal):
    """Return the smallest ascending list of so many indexes from at on whose rests add up to the goal, or None."""
    if many == 0:
        return [] if goal == 0 else None
    if many == 1:
        return [rests.index(goal, at)] if goal in rests[at:] else None
    for first in range(at, len(rests)):
        others = first_choice(rests, first + 1, many - 1, goal ^ rests[first])
        if others is not None:
            return [first] + others
    return None


def fewest(graph, most):
    """Return the smallest number of pairs in a record of a drawing and the smallest such record, or None."""
    if not is_most(most):
        raise NoMost()
    every = pairs(graph)
    bits = bits_of(graph)
    basis = basis_of(graph)
    # Carries lead from one record to another one exactly if the basis leaves the same rest of both,
    # and the rest of a record is the sum of the rests of its pairs.
    rests = [reduced(basis, bits[pair], 0)[0] for pair in every]
    goal = reduced(basis, number_of(bits, convex(graph, graph.vertices)), 0)[0]
    for number in range(most + 1):
        choice = first_choice(rests, 0, number, goal)
        if choice is not None:
            return number, [every[at] for at in choice]
    return None


def check_edges(graph, value):
    """Raise NoEdge unless a value is a row of distinct edges of the graph."""
    if not is_row(value):
        raise NoEdge(None)
    seen = set()
    for edge in value:
        if not is_edge(graph, edge) or edge in seen:
            raise NoEdge(edge)
        seen.add(edge)


def restricted(graph, record, edges):
    """Return the graph with only these edges, and the pairs of the record that consist of them."""
    check_record(graph, record)
    check_edges(graph, edges)
    kept = [(one, other) for one, other in record if one in edges and other in edges]
    return Graph(graph.vertices, edges), sorted(kept)


def extended(graph, record, edge):
    """Return the graph with an additional edge, and a record of a drawing of it that contains the given one."""
    check_record(graph, record)
    if not joins(graph.vertices, edge) or edge in graph.edges or len(graph.edges) >= MOST_EDGES:
        raise NoEdge(edge)
    carries = carries_to(graph, record)
    larger = with_edge(graph, edge)
    # The carries flip the same old pairs in both graphs, and so do the two convex records agree on them.
    return larger, carried(larger, convex(larger, larger.vertices), carries)
