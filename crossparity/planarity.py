"""Which graphs are planar, and what is left or can be added at the border between the two kinds."""

from crossparity.graphs import with_edge, without_edge
from crossparity.leads import drawable


def is_planar(graph):
    """Tell whether the graph has a drawing without crossings.

    By the theorem of Hanani and Tutte it has one exactly if some drawing has the empty record.
    """
    return drawable(graph, [])[0] == "carries"


def filled(graph):
    """Return a planar graph with further edges, so many that no other one can be added."""
    full = graph
    most = 3 * len(graph.vertices) - 6
    names = sorted(graph.vertices)
    for edge in [(low, high) for low in names for high in names if low < high]:
        if len(full.edges) < most and edge not in full.edges:
            more = with_edge(full, edge)
            full = more if is_planar(more) else full
    return full


def thinned(graph):
    """Return a part of a graph that is not planar, of which every edge is needed for this."""
    thin = graph
    for edge in graph.edges:
        less = without_edge(thin, edge)
        thin = thin if is_planar(less) else less
    return thin
