"""Graphs that are planar, graphs that contain K5 or K3,3, and graphs made from other ones."""

import itertools
import random

from crossparity.graphs import Graph
from tests import samples

OTHER_NAMES = ["zz", "y", "xyx", "w", "vvvvvvvv", "u", "ta", "s"]


def edge_of(one, other):
    return tuple(sorted([one, other]))


def bipartite(low, high):
    return Graph([*low, *high], [edge_of(one, other) for one in low for other in high])


K4 = samples.SQUARE
K5 = samples.complete(list("abcde"))
K6 = samples.complete(list("abcdef"))
K33 = bipartite("ace", "bdf")
K44 = bipartite("aceg", "bdfh")
K35 = bipartite("ace", "bdfgh")
TWO_TRIANGLES = Graph(list("axbycz"), samples.all_edges("abc") + samples.all_edges("xyz"))
PRISM = Graph(list("abcxyz"), [*TWO_TRIANGLES.edges, ("a", "x"), ("b", "y"), ("c", "z")])
OCTAHEDRON = Graph(list("abcdef"), [edge for edge in samples.all_edges("abcdef")
                                    if edge not in [("a", "b"), ("c", "d"), ("e", "f")]])
CUBE_WITHOUT_A_VERTEX = Graph(list("abcdefg"), [("a", "b"), ("b", "c"), ("c", "d"), ("d", "e"), ("e", "f"), ("a", "f"),
                                                ("b", "g"), ("d", "g"), ("f", "g")])


def wheel(rim, hub):
    around = [edge_of(name, rim[at - 1]) for at, name in enumerate(rim)]
    return Graph([*rim, hub], around + [edge_of(hub, name) for name in rim])


def double_wheel(rim, hubs):
    around = [edge_of(name, rim[at - 1]) for at, name in enumerate(rim)]
    return Graph([*rim, *hubs], around + [edge_of(hub, name) for name in rim for hub in hubs])


def shuffled(graph, seed):
    """The graph with another order of its vertices."""
    return Graph(samples.some_order(graph, seed), graph.edges)


def without(graph, *edges):
    return Graph(graph.vertices, [edge for edge in graph.edges if edge not in edges])


def stacked(size, seed):
    """A triangulation made by placing each vertex into a triangle, and its triangles."""
    choice = random.Random(f"stacked {size} {seed}")
    names = choice.sample(samples.NAMES, size)
    faces = [set(names[:3]), set(names[:3])]
    for name in names[3:]:
        face = faces.pop(choice.randrange(len(faces)))
        faces += [face - {corner} | {name} for corner in sorted(face)]
    return names, faces


def edges_of_faces(faces):
    return sorted({edge for face in faces for edge in itertools.combinations(sorted(face), 2)})


def flip_some(faces, seed, many=20):
    """Another triangulation: some edges between two triangles replaced by the other diagonal."""
    choice = random.Random(f"flip {seed}")
    for step in range(many):
        edge = choice.choice(edges_of_faces(faces))
        left, right = [face for face in faces if set(edge) <= face]
        diagonal = left ^ right
        if tuple(sorted(diagonal)) not in edges_of_faces(faces) and len(diagonal) == 2:
            faces = [face for face in faces if not set(edge) <= face]
            faces += [diagonal | {end} for end in edge]
    return faces


def triangulations(seeds=4):
    """Graphs with four to eight vertices to which no edge can be added."""
    for size in range(4, 9):
        for seed in range(seeds):
            names, faces = stacked(size, seed)
            yield Graph(names, edges_of_faces(faces))
            yield Graph(names, edges_of_faces(flip_some(faces, f"{size} {seed}")))


def planar_graphs():
    """Planar graphs of many kinds with one to eight vertices."""
    found = list(triangulations())
    for at, graph in enumerate(list(found)):
        choice = random.Random(f"removed {at}")
        kept = choice.sample(graph.edges, choice.randint(0, len(graph.edges) - 1))
        found.append(Graph(graph.vertices, kept))
        found.append(without(graph, *choice.sample(graph.edges, 2)))
    found += [samples.some_forest(seed) for seed in range(12)]
    found += [samples.some_cycle(size, "planar") for size in range(3, 9)]
    found += [Graph(samples.NAMES[:size], []) for size in range(1, 9)]
    found += [Graph(["b", "a"], [("a", "b")]), samples.complete(list("cab")), K4, TWO_TRIANGLES, PRISM, OCTAHEDRON]
    found += [wheel(samples.NAMES[:size], "hub") for size in range(3, 8)]
    found += [double_wheel(samples.NAMES[:size], ["hub", "bub"]) for size in range(3, 7)]
    found += [without(K5, edge) for edge in K5.edges] + [without(K33, edge) for edge in K33.edges]
    found += [CUBE_WITHOUT_A_VERTEX, Graph([*K4.vertices, *"wxyz"], [*K4.edges, *samples.all_edges("wxyz")])]
    return found + [shuffled(graph, "planar") for graph in found[::5]]


def divided(graph, edge, new, first=True):
    """The graph with an edge divided by a new vertex, which stands first or last among the vertices."""
    parts = [edge_of(edge[0], new), edge_of(new, edge[1])]
    return Graph([new, *graph.vertices] if first else [*graph.vertices, new], [*without(graph, edge).edges, *parts])


def some_subdivision(size, word, seed):
    """K5 or K3,3 with edges divided by further vertices, up to so many vertices."""
    choice = random.Random(f"{size} {word} {seed}")
    names = choice.sample(samples.NAMES, size)
    core = samples.complete(names[:5]) if word == "K5" else bipartite(names[:3], names[3:6])
    for new in names[len(core.vertices):]:
        core = divided(core, choice.choice(core.edges), new, choice.random() < 0.5)
    return shuffled(core, seed)


def some_larger(graph, many, seed):
    """The graph with further edges, up to so many edges."""
    choice = random.Random(f"{graph.vertices} {graph.edges} {many} {seed}")
    lacking = [edge for edge in samples.all_edges(graph.vertices) if edge not in graph.edges]
    more = choice.sample(lacking, max(0, min(len(lacking), many - len(graph.edges))))
    return Graph(graph.vertices, choice.sample([*graph.edges, *more], len(graph.edges) + len(more)))


def nonplanar_graphs(seeds=3):
    """Graphs with five to eight vertices and up to eighteen edges that contain a subdivision."""
    found = [K5, K33, K6, K44, K35]
    for word, size in itertools.product(["K5", "K33"], range(5, 9)):
        if word == "K33" and size == 5:
            continue
        for seed in range(seeds):
            core = some_subdivision(size, word, seed)
            spare = some_subdivision(6 if word == "K33" else 5, word, seed)
            more = [name for name in samples.NAMES if name not in spare.vertices][:size - len(spare.vertices)]
            found += [core, Graph([*more, *spare.vertices], spare.edges)]
            found += [some_larger(core, many, seed) for many in [13, 15, 16, 17, 18]]
    return found + [shuffled(graph, "other") for graph in found[::5]]


def new_names(graph, seed):
    """A new name for each vertex, in any order."""
    return dict(zip(graph.vertices, random.Random(f"{graph.edges} {seed}").sample(OTHER_NAMES, len(graph.vertices))))


def renamed_edge(names, edge):
    return edge_of(names[edge[0]], names[edge[1]])


def renamed_record(names, record):
    return sorted(edge_of(renamed_edge(names, one), renamed_edge(names, other)) for one, other in record)


def renamed(names, graph):
    return Graph([names[vertex] for vertex in graph.vertices], [renamed_edge(names, edge) for edge in graph.edges])


def side_by_side():
    """Two graphs without a common vertex, and both of them as one graph."""
    sizes = [(1, 0, 7, 13), (2, 1, 6, 12), (3, 3, 5, 10), (3, 3, 5, 8), (4, 6, 4, 6), (4, 5, 4, 4), (3, 2, 3, 3)]
    sizes += [(1, 0, 1, 0), (5, 10, 3, 2), (6, 11, 2, 1), (2, 1, 2, 1), (4, 3, 3, 3)]
    for seed, (first, few, second, many) in enumerate(sizes * 2):
        choice = random.Random(f"side {seed}")
        names = choice.sample(samples.NAMES, first + second)
        one = Graph(names[:first], choice.sample(samples.all_edges(names[:first]), few))
        other = Graph(names[first:], choice.sample(samples.all_edges(names[first:]), many))
        yield one, other, Graph(choice.sample(names, len(names)), [*one.edges, *other.edges])


def drawn_record(graph, seed):
    """A record that some drawing has, without the help of the program's carries."""
    order = samples.some_order(graph, seed)
    places = {vertex: at for at, vertex in enumerate(order)}
    record = []
    for one, other in samples.pairs_by_definition(graph):
        low, high = sorted(places[end] for end in one)
        if len([end for end in other if low < places[end] < high]) == 1:
            record.append((one, other))
    carries = samples.some_carries(graph, seed, many=random.Random(seed).choice([0, 1, 5, 30]))
    found = samples.carried_by_definition(graph, record, carries)
    return random.Random(f"{seed}").sample(found, len(found))


def is_drawn_by_definition(graph, record):
    """Whether some drawing has a record: no witness tells it from that of a drawing."""
    drawn = drawn_record(graph, "any")
    return all(samples.parity(samples.sum_of(drawn, record), witness) == 0 for witness in samples.witness_basis(graph))
