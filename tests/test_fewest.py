import itertools
import unittest

from crossparity.carries import convex
from crossparity.drawings import record_of
from crossparity.errors import NoMost
from crossparity.fewest import fewest
from crossparity.graphs import Graph, pairs
from crossparity.leads import drawable
from crossparity.planes import flat
from crossparity.sketches import draw
from tests import families, samples

K5, K33, K4, K6 = families.K5, families.K33, families.K4, families.K6


def fewest_by_definition(graph):
    """The number and the record, found among all sets of at most three pairs, in ascending order; None if larger."""
    witnesses = samples.witness_basis(graph)
    marks = {pair: sum((pair in witness) << at for at, witness in enumerate(witnesses))
             for pair in samples.pairs_by_definition(graph)}

    def mark(record):
        total = 0
        for pair in record:
            total ^= marks[pair]
        return total

    goal = mark(families.drawn_record(graph, "fewest"))
    for many in range(4):
        for record in itertools.combinations(sorted(marks), many):
            if mark(record) == goal:
                return many, list(record)
    return None


class FewestTestCase(unittest.TestCase):
    def check(self, graph, expected):
        """Check the results for every bound."""
        for most in range(4):
            told = fewest(graph, most)
            if expected is None or expected[0] > most:
                self.assertIsNone(told)
            else:
                self.assertIs(type(told), tuple)
                self.assertEqual([type(told[0]), type(told[1])], [int, list])
                self.assertEqual(told, expected)


class NumbersTest(FewestTestCase):
    def test_examples(self):
        self.assertEqual(fewest(K5, 3), (1, [(("a", "b"), ("c", "d"))]))
        self.assertIsNone(fewest(K5, 0))

    def test_every_shape(self):
        numbers = []
        for graph in samples.graphs(seeds=2):
            if len(graph.vertices) <= 7:
                expected = fewest_by_definition(graph)
                self.check(graph, expected)
                numbers.append(expected and expected[0])
        for number in range(4):
            self.assertGreater(numbers.count(number), 0, number)

    def test_graphs_that_contain_a_subdivision(self):
        for graph in families.nonplanar_graphs(seeds=1):
            if len(graph.vertices) <= 7:
                self.check(graph, fewest_by_definition(graph))

    def test_eight_vertices(self):
        for many in [12, 14, 15, 16]:
            graph = Graph(*samples.parts(8, many, "eight"))
            self.check(graph, fewest_by_definition(graph))

    def test_sets_tried_with_drawable_and_draw(self):
        for graph in [K4, K5, K33, families.TWO_TRIANGLES, *(families.divided(K5, edge, "v") for edge in K5.edges[:3])]:
            number, record = fewest(graph, 3)
            for many in range(number + 1):
                for other in itertools.combinations(pairs(graph), many):
                    smaller = many < number or list(other) < record
                    if smaller:
                        self.assertEqual(drawable(graph, other)[0], "witness")
            self.assertEqual(record_of(draw(graph, record)), record)

    def test_planar_graphs_have_none(self):
        for graph in families.planar_graphs():
            self.check(graph, (0, []))

    def test_k5_and_k33_have_one(self):
        self.check(K5, (1, pairs(K5)[:1]))
        self.check(K33, (1, pairs(K33)[:1]))
        for seed in range(5):
            for size in range(5, 9):
                for word in ["K5", "K33"][:1 if size == 5 else 2]:
                    graph = families.some_subdivision(size, word, f"fewest {seed}")
                    self.assertEqual(fewest(graph, 3)[0], 1)
                    self.check(graph, fewest_by_definition(graph))

    def test_k6_has_three(self):
        self.check(K6, fewest_by_definition(K6))
        self.assertEqual(fewest(K6, 3)[0], 3)

    def test_k44_and_k35_have_at_least_four(self):
        self.check(families.K44, None)
        self.check(families.K35, None)

    def test_the_record_is_that_of_a_drawing(self):
        for graph in samples.graphs(seeds=1):
            told = fewest(graph, 3)
            if told is not None:
                self.assertEqual(len(told[1]), told[0])
                self.assertEqual(record_of(draw(graph, told[1])), told[1])

    def test_no_number_is_greater_than_that_of_a_drawing(self):
        for graph in samples.graphs(seeds=1):
            for order in [samples.some_order(graph, seed) for seed in range(4)]:
                many = len(convex(graph, order))
                if many <= 3:
                    self.assertLessEqual(fewest(graph, 3)[0], many)
                    self.assertIsNotNone(fewest(graph, many))

    def test_zero_exactly_if_flat_returns_a_drawing(self):
        for graph in samples.graphs(seeds=1):
            self.assertEqual(fewest(graph, 0) is not None, flat(graph)[0] == "drawing")


class ChangesTest(FewestTestCase):
    def number(self, graph):
        """The number, or 4 for all that are greater than 3."""
        told = fewest(graph, 3)
        return 4 if told is None else told[0]

    def test_an_additional_edge_never_decreases_the_number(self):
        for graph in samples.graphs(seeds=1):
            if len(graph.edges) < 18:
                for edge in samples.all_edges(graph.vertices)[::4]:
                    if edge not in graph.edges:
                        larger = Graph(graph.vertices, [*graph.edges, edge])
                        self.assertGreaterEqual(self.number(larger), self.number(graph))

    def test_an_isolated_vertex_changes_nothing(self):
        for graph in [*samples.graphs(seeds=1), *families.nonplanar_graphs(seeds=1)]:
            if len(graph.vertices) < 8:
                self.check(Graph(["new", *graph.vertices], graph.edges), fewest(graph, 3))
                self.check(Graph([*graph.vertices, "new"], graph.edges), fewest(graph, 3))

    def test_the_order_of_the_vertices_changes_nothing(self):
        for graph in [*samples.graphs(seeds=1), *families.nonplanar_graphs(seeds=1)]:
            for seed in range(2):
                self.check(families.shuffled(graph, seed), fewest(graph, 3))

    def test_other_names_change_only_the_names(self):
        for graph in [*samples.graphs(seeds=1), *families.nonplanar_graphs(seeds=1)]:
            other = families.renamed(families.new_names(graph, "fewest"), graph)
            self.assertEqual(self.number(other), self.number(graph))

    def test_the_list_is_new_each_time(self):
        for graph in [K4, K5, K33, K6]:
            first, second = fewest(graph, 3), fewest(graph, 3)
            first[1].append(None)
            self.assertEqual(fewest(graph, 3), second)


class NoMostTest(unittest.TestCase):
    def wrong(self):
        numbers = [-1, 4, 5, -3, 100, 10 ** 40, -10 ** 40, 1.0, 0.0, 3.0, 2.5, float("inf"), "1", "", "three", b"1"]
        rows = [[], [1], (), (1,), {}, {1: 1}, {1}, [0, 1, 2, 3], range(3)]
        foreign = [value for value in samples.not_rows() if not (type(value) is int and 0 <= value <= 3)]
        return [True, False, None, *numbers, *rows, *foreign, *samples.strange_rows()]

    def test_every_other_value(self):
        for graph in [K4, K5, Graph(["a"], []), families.K44]:
            for value in self.wrong():
                with self.assertRaises(NoMost):
                    fewest(graph, value)

    def test_the_bounds(self):
        for most in range(4):
            self.assertEqual(fewest(K4, most), (0, []))
            self.assertEqual(fewest(Graph(["a"], []), most), (0, []))
