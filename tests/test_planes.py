import copy
import itertools
import random
import unittest

from crossparity.carries import convex
from crossparity.drawings import Drawing, crossings
from crossparity.fewest import fewest
from crossparity.graphs import Graph
from crossparity.leads import drawable
from crossparity.planes import flat, judge_flat
from crossparity.witnesses import charge, is_witness
from tests import families, geometry, samples

K5, K33, K4 = families.K5, families.K33, families.K4


def edges_on(path):
    return [families.edge_of(one, other) for one, other in zip(path, path[1:])]


def witness_by_definition(paths):
    """All pairs of an edge on one path and an edge on another one that has no end in common with it."""
    found = set()
    for one, other in itertools.combinations(paths, 2):
        if not {one[0], one[-1]} & {other[0], other[-1]}:
            found |= {families.edge_of(e, f) for e in edges_on(one) for f in edges_on(other)}
    return sorted(found)


def joined_as(word, branches):
    """The sets of couples of branch vertices that the word allows."""
    if word == "K5":
        return [set(itertools.combinations(branches, 2))]
    threes = [set(three) for three in itertools.combinations(branches, 3)]
    couples = list(itertools.combinations(branches, 2))
    return [{couple for couple in couples if len(three & set(couple)) == 1} for three in threes]


class FlatTestCase(unittest.TestCase):
    def check_drawing(self, graph, told):
        self.assertIs(type(told), tuple)
        word, drawing = told
        self.assertEqual(word, "drawing")
        self.assertIs(type(drawing), Drawing)
        self.assertEqual(drawing.graph, graph)
        self.assertEqual(drawing.lines, {edge: () for edge in graph.edges})
        for one, other in itertools.combinations(graph.edges, 2):
            self.assertEqual(crossings(drawing, one, other), 0)
            self.assertEqual(geometry.crossings_by_definition(drawing, one, other), 0)
        self.assertEqual(len(set(drawing.points.values())), len(graph.vertices))
        for low, high in graph.edges:
            for vertex in set(graph.vertices) - {low, high}:
                places = [drawing.points[name] for name in [vertex, low, high]]
                self.assertFalse(geometry.lies_on(*places))

    def check_path(self, graph, path):
        self.assertIs(type(path), tuple)
        self.assertGreaterEqual(len(path), 2)
        self.assertEqual(len(set(path)), len(path))
        self.assertLessEqual(set(edges_on(path)), set(graph.edges))
        self.assertLess(path[0], path[-1])

    def check_subdivision(self, graph, told):
        self.assertIs(type(told), tuple)
        kind, word, paths, witness = told
        self.assertEqual([kind, type(paths), type(witness)], ["subdivision", list, list])
        self.assertEqual(paths, sorted(paths))
        for path in paths:
            self.check_path(graph, path)
        branches = sorted({end for path in paths for end in [path[0], path[-1]]})
        self.assertIn((word, len(branches), len(paths)), [("K5", 5, 10), ("K33", 6, 9)])
        self.assertIn({(path[0], path[-1]) for path in paths}, joined_as(word, branches))
        insides = [vertex for path in paths for vertex in path[1:-1]]
        self.assertEqual(len(set(insides)), len(insides))
        self.assertEqual(set(insides) & set(branches), set())
        self.check_witness(graph, paths, witness)

    def check_witness(self, graph, paths, witness):
        self.assertEqual(witness, witness_by_definition(paths))
        self.assertLessEqual(set(witness), set(samples.pairs_by_definition(graph)))
        for carry in samples.every_carry(graph):
            self.assertEqual(samples.parity(witness, samples.flipped_by_definition(graph, carry)), 0)
        self.assertTrue(is_witness(graph, witness))
        for order in [graph.vertices, *(samples.some_order(graph, seed) for seed in range(3))]:
            self.assertEqual(samples.parity(witness, convex(graph, order)), 1)
        self.assertEqual(charge(graph, convex(graph, graph.vertices), witness), 1)

    def check(self, graph):
        """Check a result of either kind, and return whether it is a drawing."""
        told = flat(graph)
        planar = told[0] == "drawing"
        if planar:
            self.check_drawing(graph, told)
        else:
            self.check_subdivision(graph, told)
        self.assertEqual(judge_flat(graph, told), "right")
        self.assertEqual(flat(Graph(list(graph.vertices), graph.edges[::-1])), told)
        self.assertEqual(drawable(graph, [])[0] == "carries", planar)
        self.assertEqual(fewest(graph, 0), (0, []) if planar else None)
        return planar


class PlanarTest(FlatTestCase):
    def test_example(self):
        self.assertEqual(flat(K4)[0], "drawing")

    def test_planar_graphs(self):
        for graph in families.planar_graphs():
            self.assertTrue(self.check(graph))

    def test_triangulations_in_several_orders(self):
        for graph in families.triangulations(seeds=2):
            for seed in range(3):
                self.assertTrue(self.check(families.shuffled(graph, seed)))

    def test_each_edge_of_a_triangulation_removed(self):
        for graph in list(families.triangulations(seeds=1))[-2:]:
            for edge in graph.edges:
                self.assertTrue(self.check(families.without(graph, edge)))

    def test_every_graph_with_at_most_four_vertices(self):
        for size in range(1, 5):
            names = ["d", "ab", "b", "a"][:size]
            every = samples.all_edges(names)
            for many in range(len(every) + 1):
                for edges in itertools.combinations(every, many):
                    self.assertTrue(self.check(Graph(names, edges)))


class NotPlanarTest(FlatTestCase):
    def test_example(self):
        self.assertEqual(flat(K5)[1], "K5")

    def test_k5_and_k33_themselves(self):
        for graph, word in [(K5, "K5"), (K33, "K33")]:
            paths, witness = list(graph.edges), samples.pairs_by_definition(graph)
            self.assertEqual(flat(graph), ("subdivision", word, paths, witness))

    def test_subdivisions_alone(self):
        for size, seed in itertools.product(range(5, 9), range(8)):
            for word in ["K5", "K33"][:1 if size == 5 else 2]:
                graph = families.some_subdivision(size, word, f"alone {seed}")
                self.assertFalse(self.check(graph))
                told = flat(graph)
                self.assertEqual(told[1], word)
                self.assertEqual(sorted(edge for path in told[2] for edge in edges_on(path)), list(graph.edges))

    def test_graphs_that_contain_a_subdivision(self):
        words = []
        for graph in families.nonplanar_graphs():
            self.assertFalse(self.check(graph))
            words.append(flat(graph)[1])
        self.assertGreater(min(words.count("K5"), words.count("K33")), 10)

    def test_every_edge_on_the_paths_is_needed(self):
        for graph in families.nonplanar_graphs(seeds=1)[::3]:
            edges = [edge for path in flat(graph)[2] for edge in edges_on(path)]
            part = Graph(graph.vertices, edges)
            self.assertFalse(self.check(part))
            for edge in edges:
                self.assertEqual(flat(families.without(part, edge))[0], "drawing")


class AllGraphsTest(FlatTestCase):
    def test_every_shape(self):
        found = [self.check(graph) for graph in samples.graphs(seeds=2)]
        self.assertGreater(min(found.count(True), found.count(False)), 20)

    def test_k5_is_the_only_graph_with_five_vertices_that_is_not_planar(self):
        every = samples.all_edges("abcde")
        for many in range(len(every) + 1):
            for edges in itertools.combinations(every, many):
                told = flat(Graph(list("eabdc"), edges))
                self.assertEqual(told[0], "subdivision" if many == 10 else "drawing")

    def test_graphs_with_six_vertices_and_many_edges(self):
        """Of the graphs with six vertices and eleven or more edges, some are planar and some are not."""
        found = []
        for seed in range(60):
            choice = random.Random(f"six {seed}")
            names = choice.sample(samples.NAMES, 6)
            found.append(self.check(Graph(names, choice.sample(samples.all_edges(names), choice.randint(9, 12)))))
        self.assertGreater(min(found.count(True), found.count(False)), 5)

    def test_another_order_and_other_names(self):
        for graph in families.planar_graphs()[::5] + families.nonplanar_graphs(seeds=1)[::2]:
            word = flat(graph)[0]
            for seed in range(2):
                self.assertEqual(flat(families.shuffled(graph, seed))[0], word)
                other = families.renamed(families.new_names(graph, seed), graph)
                self.assertEqual(self.check(other), word == "drawing")

    def test_an_edge_divided_and_an_isolated_vertex(self):
        for graph in families.planar_graphs()[::7] + families.nonplanar_graphs(seeds=1)[::3]:
            if len(graph.vertices) < 8:
                word = flat(graph)[0]
                self.assertEqual(flat(Graph([*graph.vertices, "new"], graph.edges))[0], word)
                if len(graph.edges) < 18:
                    for edge in graph.edges[::4]:
                        larger = families.divided(graph, edge, "new")
                        self.assertEqual(self.check(larger), word == "drawing")

    def test_two_graphs_side_by_side(self):
        for one, other, both in families.side_by_side():
            planar = flat(one)[0] == flat(other)[0] == "drawing"
            self.assertEqual(self.check(both), planar)

    def test_a_subgraph_of_a_planar_graph_is_planar(self):
        for graph in samples.graphs(seeds=1):
            part = families.without(graph, *graph.edges[::5])
            if flat(graph)[0] == "drawing":
                self.assertEqual(flat(part)[0], "drawing")

    def test_the_result_belongs_to_the_caller(self):
        for graph in [K4, K5, K33, families.TWO_TRIANGLES, Graph(*samples.parts(8, 18, "caller"))]:
            told = flat(graph)
            kept = copy.deepcopy(told)
            if told[0] == "drawing":
                told[1].points.clear()
                told[1].lines.clear()
            else:
                told[2].clear()
                told[3].append(None)
            self.assertEqual(flat(graph), kept)
