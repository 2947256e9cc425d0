"""What the document promises over the whole program: the guarantees, and what other graphs and rows change."""

import copy
import itertools
import time
import unittest

from crossparity.carries import carried, convex, flipped
from crossparity.drawings import record_of
from crossparity.fewest import extended, fewest, restricted
from crossparity.graphs import Graph, pairs
from crossparity.leads import count, drawable, judge_leading, leading
from crossparity.planes import flat, judge_flat
from crossparity.sketches import draw
from crossparity.witnesses import charge, is_witness
from tests import families, samples


def graphs():
    return [*samples.graphs(seeds=1), *families.planar_graphs()[::9], *families.nonplanar_graphs(seeds=1)[::4]]


def loops(graph):
    """How many edges can be removed without separating what is connected: the rank of the cycles."""
    parts = {vertex: {vertex} for vertex in graph.vertices}
    for low, high in graph.edges:
        joined = parts[low] | parts[high]
        for vertex in joined:
            parts[vertex] = joined
    return len(graph.edges) - len(graph.vertices) + len({min(part) for part in parts.values()})


class GuaranteesTest(unittest.TestCase):
    def test_drawings_and_sets_of_pairs(self):
        for graph in graphs():
            start = convex(graph, graph.vertices)
            for record in [samples.some_record(graph, "set"), families.drawn_record(graph, "set")]:
                word, row = drawable(graph, record)
                self.assertEqual(judge_leading(graph, start, record, (word, row)), "right")
                if word == "carries":
                    self.assertEqual(carried(graph, start, row), sorted(record))
                    self.assertEqual(record_of(draw(graph, record)), sorted(record))
                else:
                    self.assertNotEqual(charge(graph, start, row), charge(graph, record, row))

    def test_all_drawings_and_invariance(self):
        for graph in graphs():
            drawings = [samples.some_drawing(graph, "all", bends=bends) for bends in [0, 2]]
            drawings.append(draw(graph, families.drawn_record(graph, "all")))
            told = flat(graph)
            drawings += [told[1]] if told[0] == "drawing" else []
            witness = samples.some_witness(graph, "all")
            for one, other in itertools.combinations([record_of(drawing) for drawing in drawings], 2):
                self.assertEqual(leading(graph, one, other)[0], "carries")
                self.assertEqual(charge(graph, one, witness), charge(graph, other, witness))
                if told[0] == "subdivision":
                    self.assertEqual([charge(graph, record, told[3]) for record in [one, other]], [1, 1])

    def test_plane_graphs_and_counting(self):
        for graph in graphs():
            told = flat(graph)
            self.assertEqual(judge_flat(graph, told), "right")
            if told[0] == "drawing":
                self.assertEqual(record_of(told[1]), [])
            else:
                self.assertTrue(is_witness(graph, told[3]))
                self.assertEqual(charge(graph, [], told[3]), 0)
            self.assertEqual(count(graph).bit_count(), 1)
            few = fewest(graph, 3)
            self.assertEqual(few is not None and few[0] == 0, told[0] == "drawing")


class OtherNamesTest(unittest.TestCase):
    def test_other_names(self):
        for graph in graphs():
            names = families.new_names(graph, "whole")
            other = families.renamed(names, graph)
            record, drawn = samples.some_record(graph, "names"), families.drawn_record(graph, "names")
            self.assertEqual(pairs(other), families.renamed_record(names, pairs(graph)))
            order = samples.some_order(graph, "names")
            turned = [names[vertex] for vertex in order]
            self.assertEqual(convex(other, turned), families.renamed_record(names, convex(graph, order)))
            for edge, vertex in samples.every_carry(graph)[::9]:
                carry = (families.renamed_edge(names, edge), names[vertex])
                self.assertEqual(flipped(other, carry), families.renamed_record(names, flipped(graph, (edge, vertex))))
            self.assertEqual(count(other), count(graph))
            for row in [record, drawn]:
                renamed = families.renamed_record(names, row)
                self.assertEqual(is_witness(other, renamed), is_witness(graph, row))
                self.assertEqual(drawable(other, renamed)[0], drawable(graph, row)[0])
            self.assertEqual(record_of(draw(other, families.renamed_record(names, drawn))),
                             families.renamed_record(names, record_of(draw(graph, drawn))))
            self.assertEqual((fewest(other, 3) or [None])[0], (fewest(graph, 3) or [None])[0])
            self.assertEqual(flat(other)[0], flat(graph)[0])

    def test_witnesses_and_subgraphs_with_other_names(self):
        for graph in graphs():
            names = families.new_names(graph, "parts")
            other = families.renamed(names, graph)
            record, witness = samples.some_record(graph, "parts"), samples.some_witness(graph, "parts")
            renamed = families.renamed_record(names, record)
            self.assertEqual(charge(other, renamed, families.renamed_record(names, witness)),
                             charge(graph, record, witness))
            part, rest = restricted(graph, record, graph.edges[::2])
            told = restricted(other, renamed, [families.renamed_edge(names, edge) for edge in graph.edges[::2]])
            self.assertEqual(told, (families.renamed(names, part), families.renamed_record(names, rest)))


class OtherOrderTest(unittest.TestCase):
    def test_another_order_of_the_vertices(self):
        for graph in graphs():
            other = families.shuffled(graph, "whole")
            record, drawn = samples.some_record(graph, "order"), families.drawn_record(graph, "order")
            self.assertEqual(pairs(other), pairs(graph))
            self.assertEqual(count(other), count(graph))
            self.assertEqual(fewest(other, 3), fewest(graph, 3))
            self.assertEqual(leading(other, record, drawn)[0], leading(graph, record, drawn)[0])
            for row in [record, drawn]:
                self.assertEqual(drawable(other, row)[0], drawable(graph, row)[0])
            self.assertEqual(record_of(draw(other, drawn)), record_of(draw(graph, drawn)))
            self.assertEqual(flat(other)[0], flat(graph)[0])
            self.assertEqual(restricted(other, record, other.edges), (other, sorted(record)))
            for carry in samples.every_carry(graph)[::9]:
                self.assertEqual(flipped(other, carry), flipped(graph, carry))
            if flat(graph)[0] == "subdivision":
                self.assertEqual(judge_flat(other, flat(graph)), "right")

    def test_another_order_of_the_edges(self):
        for graph in graphs():
            other = Graph(graph.vertices, graph.edges[::-1])
            record = families.drawn_record(graph, "edges")
            self.assertEqual(other, graph)
            self.assertEqual(flat(other), flat(graph))
            self.assertEqual(draw(other, record), draw(graph, record))
            self.assertEqual(drawable(other, record), drawable(graph, record))


class DividedTest(unittest.TestCase):
    def test_an_edge_divided_by_a_new_vertex(self):
        for graph in graphs():
            if len(graph.vertices) == 8 or len(graph.edges) == 18:
                continue
            for edge in graph.edges[::5]:
                larger = families.divided(graph, edge, "new")
                # Pulling another edge over the new vertex flips its one or two pairs with the two parts.
                self.assertEqual(count(larger), count(graph) * 2 ** (len(graph.edges) - 1))
                self.assertEqual((fewest(larger, 3) or [None])[0], (fewest(graph, 3) or [None])[0])
                self.assertEqual(flat(larger)[0], flat(graph)[0])

    def test_drawings_of_a_divided_edge(self):
        """A pair of the whole edge is odd exactly if an odd number of its two parts is."""
        for graph in graphs():
            if len(graph.vertices) == 8 or len(graph.edges) == 18:
                continue
            for edge in graph.edges[::7]:
                larger = families.divided(graph, edge, "new")
                whole = {part: edge if "new" in part else part for part in larger.edges}
                held = set()
                for one, other in record_of(draw(larger, families.drawn_record(larger, "divided"))):
                    pair = families.edge_of(whole[one], whole[other])
                    held ^= {pair} if pair in pairs(graph) else set()
                self.assertEqual(drawable(graph, sorted(held))[0], "carries")


class SideBySideTest(unittest.TestCase):
    def test_two_graphs_as_one(self):
        for one, other, both in families.side_by_side():
            between = len(one.edges) * len(other.edges) - loops(one) * loops(other)
            self.assertEqual(count(both), count(one) * count(other) * 2 ** between)
            planar = flat(one)[0] == flat(other)[0] == "drawing"
            self.assertEqual(flat(both)[0] == "drawing", planar)
            numbers = [fewest(graph, 3) for graph in [one, other, both]]
            if None not in numbers:
                self.assertEqual(numbers[0][0] + numbers[1][0], numbers[2][0])
                self.assertEqual(sorted(numbers[0][1] + numbers[1][1]), numbers[2][1])

    def test_records_of_two_graphs_as_one(self):
        for one, other, both in families.side_by_side():
            records = [samples.some_record(graph, "side") for graph in [one, other]]
            drawn = all(drawable(graph, record)[0] == "carries" for graph, record in zip([one, other], records))
            self.assertEqual(drawable(both, records[0] + records[1])[0] == "carries", drawn)


class RowsTest(unittest.TestCase):
    def calls(self, graph):
        """A call for each function that takes or returns rows, with the rows that it takes."""
        record, drawn = samples.some_record(graph, "rows"), families.drawn_record(graph, "rows")
        carries, witness = samples.some_carries(graph, "rows"), samples.some_witness(graph, "rows")
        edges, order = list(graph.edges[::2]), samples.some_order(graph, "rows")
        found = [
            (lambda: pairs(graph), []),
            (lambda one, two: carried(graph, one, two), [record, carries]),
            (lambda one: convex(graph, one), [order]),
            (lambda one: is_witness(graph, one), [record]),
            (lambda one, two: charge(graph, one, two), [record, witness]),
            (lambda one, two: leading(graph, one, two), [record, drawn]),
            (lambda one: drawable(graph, one), [record]),
            (lambda one: draw(graph, one), [drawn]),
            (lambda: flat(graph), []),
            (lambda: fewest(graph, 3), []),
            (lambda one, two: restricted(graph, one, two), [record, edges]),
            (lambda one, two: Graph(one, two), [list(graph.vertices), list(graph.edges)]),
        ]
        new = [edge for edge in samples.all_edges(graph.vertices) if edge not in graph.edges]
        if new and len(graph.edges) < 18:
            found.append((lambda one: extended(graph, one, new[0]), [drawn]))
        return found

    def test_lists_and_tuples_and_repeated_calls(self):
        for graph in graphs()[::2]:
            for call, rows in self.calls(graph):
                before = copy.deepcopy(rows)
                expected = call(*rows)
                self.assertEqual(call(*[tuple(row) for row in rows]), expected)
                self.assertEqual(call(*[list(row) for row in rows]), expected)
                self.assertEqual(rows, before)

    def spoil(self, value):
        """Change every list that a result contains."""
        if isinstance(value, list):
            value.append(None)
            value.reverse()
        elif isinstance(value, tuple):
            for part in value:
                self.spoil(part)

    def test_returned_lists_that_are_changed(self):
        for graph in graphs()[::2]:
            for call, rows in self.calls(graph):
                expected = copy.deepcopy(call(*rows))
                self.spoil(call(*rows))
                self.assertEqual(call(*rows), expected)


class TimeTest(unittest.TestCase):
    def timed(self, most, call):
        start = time.perf_counter()
        call()
        self.assertLess(time.perf_counter() - start, most)

    def test_the_largest_graphs(self):
        for seed in range(3):
            graph = Graph(*samples.parts(8, 18, f"time {seed}"))
            smaller = families.without(graph, graph.edges[seed])
            record = families.drawn_record(graph, seed)
            told = flat(graph)
            self.timed(2, lambda: draw(graph, record))
            self.timed(2, lambda: flat(graph))
            self.timed(1, lambda: fewest(graph, 3))
            self.timed(1, lambda: restricted(graph, record, graph.edges[::2]))
            self.timed(1, lambda: extended(smaller, restricted(graph, record, smaller.edges)[1], graph.edges[seed]))
            self.timed(1, lambda: judge_flat(graph, told))
        for graph in list(families.triangulations(seeds=1))[-2:] + [Graph(samples.NAMES, []), families.K44]:
            self.timed(2, lambda: flat(graph))
            self.timed(1, lambda: fewest(graph, 3))
