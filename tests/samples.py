"""Graphs and foreign objects that several tests use."""

import functools
import itertools
import random

from crossparity.drawings import Drawing
from crossparity.errors import NoDrawing
from crossparity.graphs import Graph

# Neither sorted nor of one length, so that the order of the vertices and the order of the names differ.
NAMES = ["m", "ab", "z", "a", "abcdefgh", "q", "ba", "c"]

SQUARE = Graph(["a", "b", "c", "d"], list(itertools.combinations("abcd", 2)))


def all_edges(names):
    return list(itertools.combinations(sorted(names), 2))


def complete(names):
    return Graph(names, all_edges(names))


def shapes():
    """Every number of vertices from one to eight with every possible number of edges up to eighteen."""
    for size in range(1, 9):
        for many in range(0, min(18, size * (size - 1) // 2) + 1):
            yield size, many


def parts(size, many, seed):
    """The vertices and edges of a graph, in an order that the seed chooses."""
    choice = random.Random(f"{size} {many} {seed}")
    vertices = choice.sample(NAMES, size)
    return vertices, choice.sample(all_edges(vertices), many)


def graphs(seeds=2):
    """One graph for each shape and seed, from a single vertex to eight vertices and eighteen edges."""
    for size, many in shapes():
        for seed in range(seeds):
            yield Graph(*parts(size, many, seed))


def pairs_by_definition(graph):
    return list(pairs_of_edges(graph.edges))


@functools.lru_cache(maxsize=None)
def pairs_of_edges(edges):
    return [(e, f) for e in sorted(edges) for f in sorted(edges) if e < f and len({*e, *f}) == 4]


def every_carry(graph):
    return [(edge, vertex) for edge in graph.edges for vertex in graph.vertices if vertex not in edge]


def flipped_by_definition(graph, carry):
    edge, vertex = carry
    flips = []
    for one, other in pairs_by_definition(graph):
        if (one == edge and vertex in other) or (other == edge and vertex in one):
            flips.append((one, other))
    return flips


def carried_by_definition(graph, record, carries):
    held = set(record)
    for carry in carries:
        held ^= set(flipped_by_definition(graph, carry))
    return sorted(held)


def some_record(graph, seed):
    choice = random.Random(f"{graph.vertices} {graph.edges} {seed}")
    every = pairs_by_definition(graph)
    return choice.sample(every, choice.randint(0, len(every)))


def some_carries(graph, seed, many=30):
    """A row of carries in which some stand several times; empty if the graph has no carries."""
    choice = random.Random(f"{graph.vertices} {graph.edges} {seed}")
    every = every_carry(graph)
    return choice.choices(every, k=many) + every[:2] * 2 if every else []


def sum_of(one, other):
    """The pairs that are in exactly one of two records."""
    return sorted(set(one) ^ set(other))


def parity(one, other):
    return len(set(one) & set(other)) % 2


def witness_basis(graph):
    """Witnesses of which every witness is a sum."""
    return [list(witness) for witness in witness_parts(graph.vertices, graph.edges)]


@functools.lru_cache(maxsize=None)
def witness_parts(vertices, edges):
    """All single pairs at first; then, for each carry, the odd ones are put together to even ones."""
    graph = Graph(vertices, edges)
    found = [{pair} for pair in pairs_by_definition(graph)]
    for carry in every_carry(graph):
        flips = set(flipped_by_definition(graph, carry))
        odd = [record for record in found if len(record & flips) % 2 == 1]
        found = [record for record in found if len(record & flips) % 2 == 0]
        found += [odd[0] ^ record for record in odd[1:]]
    return [sorted(witness) for witness in found]


def some_witness(graph, seed):
    choice = random.Random(f"{graph.vertices} {graph.edges} {seed}")
    witness = []
    for part in witness_basis(graph):
        if choice.random() < 0.5:
            witness = sum_of(witness, part)
    return choice.sample(witness, len(witness))


def kuratowski():
    """K5 and K3,3 and larger graphs around them, each with all pairs of the K5 or K3,3 inside it."""
    found = []
    for seed in range(12):
        choice = random.Random(seed)
        names = choice.sample(NAMES, 8)
        five = all_edges(names[:5])
        six = [tuple(sorted([low, high])) for low in names[:3] for high in names[3:6]]
        for core, size in [(five, 5), (six, 6)]:
            around = [edge for edge in all_edges(names) if edge not in core]
            more = choice.sample(around, choice.randint(1, 18 - len(core)))
            witness = pairs_by_definition(Graph(names, core))
            found.append((Graph(choice.sample(names[:size], size), core), witness))
            found.append((Graph(names, core + more), witness))
    return found


def some_forest(seed):
    choice = random.Random(f"forest {seed}")
    names = choice.sample(NAMES, choice.randint(1, 8))
    joined = [(choice.choice(names[:at]), name) for at, name in enumerate(names) if at > 0]
    return Graph(choice.sample(names, len(names)), [tuple(sorted(edge)) for edge in joined if choice.random() < 0.8])


def some_cycle(size, seed):
    choice = random.Random(f"cycle {size} {seed}")
    names = choice.sample(NAMES, size)
    joined = [tuple(sorted([name, names[at - 1]])) for at, name in enumerate(names)]
    return Graph(choice.sample(names, size), joined)


def some_order(graph, seed):
    return random.Random(f"{graph.vertices} {graph.edges} {seed}").sample(graph.vertices, len(graph.vertices))


def some_place(choice, reach):
    return choice.randint(-reach, reach), choice.randint(-reach, reach)


def some_plan(graph, choice, reach, bends):
    """The points and lines of a drawing that need not be in general position."""
    points = {vertex: some_place(choice, reach) for vertex in graph.vertices}
    lines = {edge: [some_place(choice, reach) for step in range(choice.randint(0, bends))] for edge in graph.edges}
    return points, lines


def some_drawing(graph, seed, reach=1000, bends=4):
    choice = random.Random(f"{graph.vertices} {graph.edges} {reach} {bends} {seed}")
    while True:
        try:
            return Drawing(graph, *some_plan(graph, choice, reach, bends))
        except NoDrawing:
            continue


class Unhashable:
    __hash__ = None


class AlwaysEqual:
    """Equal to everything, so that a search by == alone finds it everywhere."""

    def __eq__(self, other):
        return True

    def __hash__(self):
        return 0


class Touchy:
    """Fails whenever it is compared, hashed, measured, iterated over, indexed or tested."""

    def fail(self, *rest):
        raise RuntimeError("touched")

    __eq__ = __ne__ = __lt__ = __le__ = __gt__ = __ge__ = fail
    __hash__ = __len__ = __iter__ = __getitem__ = __contains__ = __bool__ = __repr__ = fail


def deep_tuple():
    """A tuple that is nested too deep to be compared or hashed."""
    deep = ()
    for step in range(100000):
        deep = (deep, "a")
    return deep


def endless_list():
    endless = []
    endless.append(endless)
    return endless


def not_rows():
    """Objects of many kinds, none of them a list or a tuple."""
    return [
        None, True, False, 0, -1, 10 ** 40, 1.5, float("nan"), 2j, "", "a", "ab", "abcd", b"ab", bytearray(b"ab"),
        {}, {"a": "b"}, {"a", "b"}, frozenset("ab"), range(2), range(0), iter(["a"]), (x for x in "ab"), zip("a", "b"),
        {"a": 1}.keys(), object(), object, len, lambda: None, Ellipsis, NotImplemented, ValueError("a"),
        memoryview(b"a"), Unhashable(), AlwaysEqual(), Touchy(), SQUARE,
    ]


def strange_rows():
    """Rows that are not names, edges, pairs or carries."""
    return [
        [], (), [[]], ((),), ["a"], ("a",), ["a", "b"], ("a", "b", "c"), ("ab",), (None, None), ([], []), ({}, {}),
        ("a", []), ([], "a"), ((("a", "b"),), "c"), (Unhashable(), Unhashable()), (AlwaysEqual(), AlwaysEqual()),
        (Touchy(), Touchy()), (AlwaysEqual(), "a"), ("a", AlwaysEqual()), deep_tuple(), (deep_tuple(), deep_tuple()),
        endless_list(), (endless_list(), endless_list()),
    ]
