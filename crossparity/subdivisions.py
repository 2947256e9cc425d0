"""Subdivisions of K5 and K3,3 in a graph, as paths between branch vertices, and their witnesses."""

from crossparity.graphs import are_apart, is_among, neighbours
from crossparity.planarity import thinned


def is_branch(graph, vertex):
    """Tell whether a vertex of a subdivision is a branch vertex."""
    return len(neighbours(graph, vertex)) > 2


def walk(graph, start, second):
    """Return the path of a subdivision from a branch vertex by this second vertex to the next branch vertex."""
    path = [start, second]
    while not is_branch(graph, path[-1]):
        path.append([vertex for vertex in neighbours(graph, path[-1]) if vertex != path[-2]][0])
    return tuple(path)


def subdivision_in(graph):
    """Return the word and the sorted paths of a subdivision in a graph that is not planar."""
    # By the theorem of Kuratowski, what is left is a subdivision, beside vertices without edges.
    thin = thinned(graph)
    branches = [vertex for vertex in thin.vertices if is_branch(thin, vertex)]
    word = "K5" if len(branches) == 5 else "K33"
    # Each path is walked from both of its ends.
    walks = [walk(thin, start, second) for start in branches for second in neighbours(thin, start)]
    return word, sorted([path for path in walks if path[0] < path[-1]])


def ends_of(path):
    """Return the first and the last vertex of a path."""
    return path[0], path[-1]


def edges_on(path):
    """Return the edges between consecutive vertices of a path."""
    return [tuple(sorted([one, other])) for one, other in zip(path, path[1:])]


def witness_of(paths):
    """Return the sorted list of all pairs of edges on two paths that have no end in common."""
    found = []
    for at, one in enumerate(paths):
        for other in paths[at + 1:]:
            if are_apart(ends_of(one), ends_of(other)):
                found += [tuple(sorted([e, f])) for e in edges_on(one) for f in edges_on(other)]
    return sorted(found)


def is_path(graph, value):
    """Tell whether a value of any kind is a path in the graph."""
    if not isinstance(value, tuple) or len(value) < 2:
        return False
    if not all([is_among(graph.vertices, vertex) for vertex in value]) or len(set(value)) != len(value):
        return False
    return value[0] < value[-1] and all([edge in graph.edges for edge in edges_on(value)])


def are_two_threes(branches, joined):
    """Tell whether joined, nine couples of six branch vertices, are all couples between two groups of three."""
    group = [vertex for vertex in branches if (branches[0], vertex) in joined]
    return len(group) == 3 and all([(low in group) != (high in group) for low, high in joined])


def has_shape(word, paths):
    """Tell whether the ends of the paths are joined as the word says, each two by one path at most."""
    joined = sorted({ends_of(path) for path in paths})
    branches = sorted({end for path in paths for end in ends_of(path)})
    if len(joined) != len(paths):
        return False
    if word == "K5":
        return len(paths) == 10 and len(branches) == 5
    return word == "K33" and len(paths) == 9 and len(branches) == 6 and are_two_threes(branches, joined)


def are_disjoint(paths):
    """Tell whether no vertex is inside two paths, and none is inside one path and an end of another one."""
    insides = [vertex for path in paths for vertex in path[1:-1]]
    ends = [end for path in paths for end in ends_of(path)]
    return len(set(insides)) == len(insides) and len(set(insides) & set(ends)) == 0


def is_subdivision(graph, word, row):
    """Tell whether a row of values of any kind is a subdivision in the graph, as the word says."""
    return all([is_path(graph, path) for path in row]) and has_shape(word, row) and are_disjoint(row)
