"""Graphs and foreign objects that several tests use."""

import itertools
import random

from crossparity.graphs import Graph

# Neither sorted nor of one length, so that the order of the vertices and the order of the names differ.
NAMES = ["m", "ab", "z", "a", "abcdefgh", "q", "ba", "c"]

SQUARE = Graph(["a", "b", "c", "d"], list(itertools.combinations("abcd", 2)))


def all_edges(names):
    return list(itertools.combinations(sorted(names), 2))


def complete(names):
    return Graph(names, all_edges(names))


def shapes():
    """Every number of vertices from one to eight with every possible number of edges up to eighteen."""
    for size in range(1, 9):
        for many in range(0, min(18, size * (size - 1) // 2) + 1):
            yield size, many


def parts(size, many, seed):
    """The vertices and edges of a graph, in an order that the seed chooses."""
    choice = random.Random(f"{size} {many} {seed}")
    vertices = choice.sample(NAMES, size)
    return vertices, choice.sample(all_edges(vertices), many)


def graphs(seeds=2):
    """One graph for each shape and seed, from a single vertex to eight vertices and eighteen edges."""
    for size, many in shapes():
        for seed in range(seeds):
            yield Graph(*parts(size, many, seed))


def pairs_by_definition(graph):
    return [(e, f) for e in sorted(graph.edges) for f in sorted(graph.edges) if e < f and len({*e, *f}) == 4]


class Unhashable:
    __hash__ = None


class AlwaysEqual:
    """Equal to everything, so that a search by == alone finds it everywhere."""

    def __eq__(self, other):
        return True

    def __hash__(self):
        return 0


class Touchy:
    """Fails whenever it is compared, hashed, measured, iterated over, indexed or tested."""

    def fail(self, *rest):
        raise RuntimeError("touched")

    __eq__ = __ne__ = __lt__ = __le__ = __gt__ = __ge__ = fail
    __hash__ = __len__ = __iter__ = __getitem__ = __contains__ = __bool__ = __repr__ = fail


def deep_tuple():
    """A tuple that is nested too deep to be compared or hashed."""
    deep = ()
    for step in range(100000):
        deep = (deep, "a")
    return deep


def endless_list():
    endless = []
    endless.append(endless)
    return endless


def not_rows():
    """Objects of many kinds, none of them a list or a tuple."""
    return [
        None, True, False, 0, -1, 10 ** 40, 1.5, float("nan"), 2j, "", "a", "ab", "abcd", b"ab", bytearray(b"ab"),
        {}, {"a": "b"}, {"a", "b"}, frozenset("ab"), range(2), range(0), iter(["a"]), (x for x in "ab"), zip("a", "b"),
        {"a": 1}.keys(), object(), object, len, lambda: None, Ellipsis, NotImplemented, ValueError("a"),
        memoryview(b"a"), Unhashable(), AlwaysEqual(), Touchy(), SQUARE,
    ]


def strange_rows():
    """Rows that are not names, edges, pairs or carries."""
    return [
        [], (), [[]], ((),), ["a"], ("a",), ["a", "b"], ("a", "b", "c"), ("ab",), (None, None), ([], []), ({}, {}),
        ("a", []), ([], "a"), ((("a", "b"),), "c"), (Unhashable(), Unhashable()), (AlwaysEqual(), AlwaysEqual()),
        (Touchy(), Touchy()), (AlwaysEqual(), "a"), ("a", AlwaysEqual()), deep_tuple(), (deep_tuple(), deep_tuple()),
        endless_list(), (endless_list(), endless_list()),
    ]
