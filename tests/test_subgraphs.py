"""restricted and extended: records of a graph with fewer or with more edges."""

import copy
import itertools
import random
import unittest

from crossparity.carries import convex
from crossparity.drawings import record_of
from crossparity.errors import NoEdge, NoRecord, NotDrawable
from crossparity.fewest import extended, restricted
from crossparity.graphs import Graph, pairs
from crossparity.leads import drawable
from crossparity.sketches import draw
from tests import families, samples

K5, K33, K4 = families.K5, families.K33, families.K4
ONE_PAIR = [(("a", "c"), ("b", "d"))]


def some_edges(graph, seed):
    choice = random.Random(f"{graph.vertices} {graph.edges} {seed}")
    return choice.sample(graph.edges, choice.randint(0, len(graph.edges)))


def wrong_edges():
    """Values of any kind that are not an edge of a graph with the vertices a to e."""
    nearly = [("b", "a"), ("a", "a"), ["a", "b"], ("a",), ("a", "b", "c"), ("a", "z"), ("z", "a"), "ab", ("ab",),
              (("a", "b"), ("c", "d")), ("a", None), (0, 1), ("A", "b"), ("", "a")]
    return nearly + samples.not_rows() + samples.strange_rows()


class NoEdgeTestCase(unittest.TestCase):
    def check_no_edge(self, call, graph, record, value, edge):
        with self.assertRaises(NoEdge) as caught:
            call(graph, record, value)
        self.assertIs(caught.exception.edge, edge)


class RestrictedTest(NoEdgeTestCase):
    def check(self, graph, record, edges):
        told = restricted(graph, record, edges)
        self.assertIs(type(told), tuple)
        part, rest = told
        self.assertIs(type(part), Graph)
        self.assertEqual(part.vertices, graph.vertices)
        self.assertEqual(part.edges, tuple(sorted(edges)))
        self.assertIs(type(rest), list)
        self.assertEqual(rest, sorted(pair for pair in record if set(pair) <= set(edges)))
        return part, rest

    def test_example(self):
        part, rest = restricted(K4, ONE_PAIR, [("a", "c")])
        self.assertEqual(rest, [])
        self.assertEqual(part, Graph(["a", "b", "c", "d"], [("a", "c")]))

    def test_every_shape(self):
        for graph in samples.graphs(seeds=2):
            for seed in range(4):
                self.check(graph, samples.some_record(graph, seed), some_edges(graph, seed))

    def test_no_edges_and_all_edges(self):
        for graph in samples.graphs(seeds=1):
            record = samples.some_record(graph, "all")
            self.assertEqual(self.check(graph, record, []), (Graph(graph.vertices, []), []))
            self.assertEqual(self.check(graph, record, graph.edges), (graph, sorted(record)))

    def test_lists_and_tuples_in_any_order_stay_as_they_are(self):
        for graph in samples.graphs(seeds=1):
            record, edges = samples.some_record(graph, "rows"), some_edges(graph, "rows")
            before = copy.deepcopy((record, edges))
            expected = self.check(graph, record, edges)
            for first, second in itertools.product([list, tuple], repeat=2):
                self.assertEqual(restricted(graph, first(record), second(edges)), expected)
                self.assertEqual(restricted(graph, first(record[::-1]), second(sorted(edges))), expected)
            self.assertEqual((record, edges), before)

    def test_changing_arguments_and_results_later_has_no_effect(self):
        for graph in samples.graphs(seeds=1):
            record, edges = samples.some_record(graph, "later"), list(graph.edges)
            part, rest = restricted(graph, record, edges)
            kept = list(rest)
            edges.clear()
            record.append(None)
            self.assertEqual((part, rest), (graph, kept))
            rest.append(None)
            self.assertEqual(restricted(graph, record[:-1], graph.edges), (graph, kept))

    def test_a_record_of_a_drawing_stays_one(self):
        for graph in samples.graphs(seeds=2):
            for seed in range(2):
                part, rest = self.check(graph, families.drawn_record(graph, seed), some_edges(graph, seed))
                self.assertEqual(drawable(part, rest)[0], "carries")
                self.assertEqual(record_of(draw(part, rest)), rest)

    def test_twice_is_once(self):
        for graph in samples.graphs(seeds=1):
            record, edges = samples.some_record(graph, "twice"), some_edges(graph, "twice")
            fewer = edges[::2]
            self.assertEqual(restricted(*restricted(graph, record, edges), fewer), restricted(graph, record, fewer))

    def test_the_convex_record(self):
        for graph in samples.graphs(seeds=1):
            part, rest = restricted(graph, convex(graph, graph.vertices), some_edges(graph, "convex"))
            self.assertEqual(rest, convex(part, part.vertices))

    def test_a_value_that_is_not_a_row(self):
        for value in samples.not_rows():
            self.check_no_edge(restricted, K4, [], value, None)
            self.check_no_edge(restricted, Graph(["a"], []), (), value, None)

    def test_the_first_wrong_edge(self):
        for value in wrong_edges():
            for at in [0, 2, 6]:
                row = [*K4.edges[:at], value, *K4.edges[at:]]
                self.check_no_edge(restricted, K4, ONE_PAIR, row, value)
                self.check_no_edge(restricted, K4, ONE_PAIR, (*row, None, ("b", "a")), value)

    def test_edges_that_the_graph_lacks(self):
        for graph in samples.graphs(seeds=1):
            for edge in samples.all_edges(samples.NAMES):
                if edge not in graph.edges:
                    self.check_no_edge(restricted, graph, [], [*graph.edges, edge], edge)

    def test_an_edge_that_equals_an_earlier_one(self):
        for first, second in itertools.combinations(range(len(K5.edges) + 1), 2):
            row = list(K5.edges)
            again = tuple(list(row[first]))
            row.insert(second, again)
            self.check_no_edge(restricted, K5, [], row, again)
            self.check_no_edge(restricted, K5, [], (*row, None), again)

    def test_an_edge_twice_before_or_behind_a_wrong_one(self):
        edge, wrong = ("a", "b"), ("b", "a")
        self.check_no_edge(restricted, K4, [], [edge, edge, wrong], edge)
        self.check_no_edge(restricted, K4, [], [edge, wrong, edge], wrong)

    def test_no_record_comes_before_no_edge(self):
        for edges in [None, [None], [("b", "a")], [("a", "b")] * 2, samples.Touchy(), []]:
            for record, at in [(None, -1), ([None], 0), (ONE_PAIR * 2, 1)]:
                with self.assertRaises(NoRecord) as caught:
                    restricted(K4, record, edges)
                self.assertEqual(caught.exception.at, at)


def lacking(graph):
    return [edge for edge in samples.all_edges(graph.vertices) if edge not in graph.edges]


class ExtendedTest(NoEdgeTestCase):
    def check(self, graph, record, edge):
        told = extended(graph, record, edge)
        self.assertIs(type(told), tuple)
        larger, more = told
        self.assertEqual(larger, Graph(graph.vertices, [*graph.edges, edge]))
        self.assertIs(type(more), list)
        self.assertEqual(more, sorted(set(more)))
        self.assertLessEqual(set(more), set(samples.pairs_by_definition(larger)))
        self.assertEqual(drawable(larger, more)[0], "carries")
        self.assertTrue(families.is_drawn_by_definition(larger, more))
        self.assertEqual([pair for pair in more if edge not in pair], sorted(record))
        self.assertEqual(restricted(larger, more, graph.edges), (graph, sorted(record)))
        return larger, more

    def test_example(self):
        with self.assertRaises(NoEdge) as caught:
            extended(K5, [], ("a", "b"))
        self.assertEqual(caught.exception.edge, ("a", "b"))

    def test_every_shape(self):
        for graph in samples.graphs(seeds=2):
            if len(graph.edges) < 18:
                for seed, edge in enumerate(lacking(graph)[::5]):
                    self.check(graph, families.drawn_record(graph, seed), edge)

    def test_from_no_edges_to_eighteen(self):
        for seed in range(3):
            choice = random.Random(f"grown {seed}")
            graph, record = Graph(choice.sample(samples.NAMES, 8), []), []
            while len(graph.edges) < 18:
                graph, record = self.check(graph, record, choice.choice(lacking(graph)))
            self.assertEqual(record_of(draw(graph, record)), record)
            for edge in lacking(graph):
                self.check_no_edge(extended, graph, record, edge, edge)

    def test_an_equal_result_for_a_tuple_and_after_a_change(self):
        for graph in samples.graphs(seeds=1):
            if len(graph.edges) < 18 and lacking(graph):
                record, edge = families.drawn_record(graph, "tuple"), lacking(graph)[-1]
                before = list(record)
                told = extended(graph, record, edge)
                kept = copy.deepcopy(told)
                self.assertEqual(extended(graph, tuple(record), edge), kept)
                told[1].append(None)
                self.assertEqual(extended(graph, list(record), tuple(list(edge))), kept)
                self.assertEqual(record, before)

    def test_an_edge_that_the_graph_has(self):
        for graph in samples.graphs(seeds=1):
            record = families.drawn_record(graph, "has")
            for edge in graph.edges:
                self.check_no_edge(extended, graph, record, edge, edge)

    def test_values_that_are_no_edge(self):
        graph = families.without(K5, ("a", "b"))
        for record in [[], pairs(graph)[:1]]:
            for value in wrong_edges():
                self.check_no_edge(extended, graph, record, value, value)
            for low, high in samples.all_edges(graph.vertices):
                for value in [(high, low), [low, high], (low, low), (low, "new"), ("aa", high), (low, high, high)]:
                    self.check_no_edge(extended, graph, record, value, value)

    def test_every_edge_if_the_graph_has_eighteen_already(self):
        for seed in range(3):
            graph = Graph(*samples.parts(8, 18, f"full {seed}"))
            for record in [families.drawn_record(graph, seed), samples.some_record(graph, seed), []]:
                for edge in samples.all_edges(graph.vertices):
                    self.check_no_edge(extended, graph, record, edge, edge)

    def test_no_record_comes_first(self):
        full = Graph(*samples.parts(8, 18, "first"))
        for graph, edge in [(K4, None), (K4, ("a", "b")), (full, lacking(full)[0]), (K4, samples.Touchy())]:
            for value in samples.not_rows():
                with self.assertRaises(NoRecord) as caught:
                    extended(graph, value, edge)
                self.assertEqual(caught.exception.at, -1)
            twice = pairs(graph)[:1] * 2
            for record, at in [([None], 0), (twice, 1), ((*twice, None), 1)]:
                with self.assertRaises(NoRecord) as caught:
                    extended(graph, record, edge)
                self.assertEqual(caught.exception.at, at)

    def test_no_edge_comes_before_not_drawable(self):
        graph = Graph(list("abcdef"), K5.edges)
        for value in [*K5.edges, *wrong_edges(), ("f", "a"), ("f", "f")]:
            self.check_no_edge(extended, graph, [], value, value)

    def check_not_drawable(self, graph, record, edge):
        with self.assertRaises(NotDrawable) as caught:
            extended(graph, record, edge)
        witness = caught.exception.witness
        self.assertIs(type(witness), list)
        self.assertEqual(witness, sorted(set(witness)))
        self.assertLessEqual(set(witness), set(samples.pairs_by_definition(graph)))
        for carry in samples.every_carry(graph):
            self.assertEqual(samples.parity(witness, samples.flipped_by_definition(graph, carry)), 0)
        start = convex(graph, graph.vertices)
        self.assertNotEqual(samples.parity(witness, start), samples.parity(witness, record))
        with self.assertRaises(NotDrawable) as drawn:
            draw(graph, record)
        self.assertEqual(drawn.exception.witness, witness)

    def test_records_that_no_drawing_has(self):
        found = 0
        for graph in samples.graphs(seeds=2):
            if len(graph.edges) < 18 and lacking(graph):
                for seed in range(3):
                    record = samples.some_record(graph, f"not {seed}")
                    if families.is_drawn_by_definition(graph, record):
                        self.check(graph, record, lacking(graph)[0])
                    else:
                        self.check_not_drawable(graph, record, lacking(graph)[0])
                        found += 1
        self.assertGreater(found, 30)

    def test_one_pair_of_a_k5_or_k33_too_many(self):
        for graph, witness in samples.kuratowski():
            if len(graph.edges) < 18 and lacking(graph):
                record = families.drawn_record(graph, "many")
                self.check(graph, record, lacking(graph)[0])
                for pair in witness[::5]:
                    self.check_not_drawable(graph, samples.sum_of(record, [pair]), lacking(graph)[0])
