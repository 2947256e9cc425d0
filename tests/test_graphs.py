import copy
import itertools
import string
import unittest

from crossparity.errors import NoGraph
from crossparity.graphs import Graph, pairs
from tests import samples

EDGES = [("a", "b"), ("a", "c"), ("b", "d")]


class Lookalike:
    def __init__(self, graph):
        self.vertices = graph.vertices
        self.edges = graph.edges


class GraphTest(unittest.TestCase):
    def test_example(self):
        graph = Graph(["c", "a", "b"], [("b", "c"), ("a", "b")])
        self.assertEqual(graph.edges, (("a", "b"), ("b", "c")))
        self.assertEqual(graph.vertices, ("c", "a", "b"))

    def test_attributes_of_every_shape(self):
        for size, many in samples.shapes():
            vertices, edges = samples.parts(size, many, "attributes")
            for row, other in itertools.product([list, tuple], repeat=2):
                with self.subTest(size=size, many=many, row=row, other=other):
                    graph = Graph(row(vertices), other(edges))
                    self.assertIs(type(graph.vertices), tuple)
                    self.assertIs(type(graph.edges), tuple)
                    self.assertEqual(list(graph.vertices), vertices)
                    self.assertEqual(list(graph.edges), sorted(edges))

    def test_the_lists_are_copied_and_not_modified(self):
        for size, many in samples.shapes():
            with self.subTest(size=size, many=many):
                vertices, edges = samples.parts(size, many, "copied")
                before = copy.deepcopy((vertices, edges))
                graph = Graph(vertices, edges)
                self.assertEqual((vertices, edges), before)
                vertices.append("new")
                vertices[0] = "other"
                edges.insert(0, ("new", "other"))
                self.assertEqual(list(graph.vertices), before[0])
                self.assertEqual(list(graph.edges), sorted(before[1]))

    def test_edges_are_sorted_by_name_and_not_by_vertex_order(self):
        graph = Graph(["z", "b", "ab", "a"], [("b", "z"), ("ab", "b"), ("a", "z"), ("a", "ab")])
        self.assertEqual(graph.edges, (("a", "ab"), ("a", "z"), ("ab", "b"), ("b", "z")))

    def test_names_of_one_to_eight_letters(self):
        for length in range(1, 9):
            for name in ["a" * length, "z" * length, string.ascii_lowercase[-length:]]:
                self.assertEqual(Graph([name], []).vertices, (name,))

    def test_each_letter_is_a_name(self):
        for letter in string.ascii_lowercase:
            self.assertEqual(Graph([letter], []).vertices, (letter,))

    def test_the_largest_graph(self):
        vertices = list("abcdefgh")
        graph = Graph(vertices, samples.all_edges(vertices)[-18:])
        self.assertEqual((len(graph.vertices), len(graph.edges)), (8, 18))


class EqualityTest(unittest.TestCase):
    def check(self, one, other, expected):
        self.assertIs(one == other, expected)
        self.assertIs(other == one, expected)
        self.assertIs(one != other, not expected)
        self.assertIs(other != one, not expected)

    def test_the_order_of_the_edges_does_not_matter(self):
        for size, many in samples.shapes():
            with self.subTest(size=size, many=many):
                vertices, edges = samples.parts(size, many, "equal")
                self.check(Graph(vertices, edges), Graph(tuple(vertices), tuple(edges[::-1])), True)

    def test_the_order_of_the_vertices_matters(self):
        for size, many in samples.shapes():
            if size > 1:
                with self.subTest(size=size, many=many):
                    vertices, edges = samples.parts(size, many, "order")
                    self.check(Graph(vertices, edges), Graph(vertices[1:] + vertices[:1], edges), False)

    def test_one_edge_fewer(self):
        for size, many in samples.shapes():
            if many > 0:
                with self.subTest(size=size, many=many):
                    vertices, edges = samples.parts(size, many, "fewer")
                    self.check(Graph(vertices, edges), Graph(vertices, edges[1:]), False)

    def test_another_edge(self):
        self.check(Graph("a b c".split(), [("a", "b")]), Graph("a b c".split(), [("a", "c")]), False)

    def test_one_vertex_more(self):
        for size, many in samples.shapes():
            if size < 8:
                with self.subTest(size=size, many=many):
                    vertices, edges = samples.parts(size, many, "more")
                    self.check(Graph(vertices, edges), Graph(vertices + ["new"], edges), False)

    def test_other_objects(self):
        graph = Graph(["a", "b"], [("a", "b")])
        shown = (graph.vertices, graph.edges)
        others = [None, 0, "a", shown, list(shown), graph.vertices, graph.edges, {}, object(), Graph, Lookalike(graph)]
        for other in others:
            self.check(graph, other, False)

    def test_a_graph_is_unequal_to_an_object_that_equals_everything(self):
        self.assertIs(samples.SQUARE == samples.AlwaysEqual(), False)
        self.assertIs(samples.SQUARE == samples.Touchy(), False)


class NoGraphTest(unittest.TestCase):
    def check(self, vertices, edges, why):
        with self.assertRaises(NoGraph) as caught:
            Graph(vertices, edges)
        self.assertEqual(caught.exception.why, why)

    def check_vertices(self, vertices):
        for edges in [[], (), EDGES, None, [("b", "a")], [[]], samples.Touchy()]:
            self.check(vertices, edges, "vertices")

    def check_edge(self, edge):
        for row in [[edge], (edge,), EDGES + [edge], (edge, *EDGES), [EDGES[0], edge, EDGES[1]]]:
            for names in [list("abcd"), tuple("dcba")]:
                self.check(names, row, "edges")

    def test_examples(self):
        self.check(["a", "a"], [], "vertices")
        self.check(["a", "b"], [("b", "a")], "edges")

    def test_vertices_that_are_not_a_row(self):
        for at, value in enumerate(samples.not_rows()):
            with self.subTest(at):
                self.check_vertices(value)

    def test_no_vertices(self):
        self.check_vertices([])
        self.check_vertices(())

    def test_nine_vertices_and_more(self):
        for many in [9, 10, 26]:
            self.check_vertices(list(string.ascii_lowercase[:many]))
            self.check_vertices(tuple(string.ascii_lowercase[:many]))
        self.check_vertices(["a"] * 9)
        self.check_vertices([None] * 9)

    def test_a_duplicate_name(self):
        for size in range(2, 9):
            names = samples.NAMES[:size]
            for at, to in itertools.permutations(range(size), 2):
                changed = list(names)
                changed[to] = names[at]
                self.check_vertices(changed)
                self.check_vertices(tuple(changed))

    def test_an_item_that_is_not_a_name(self):
        for value in samples.not_rows() + samples.strange_rows():
            if not isinstance(value, str):
                self.check_vertices([value])
                self.check_vertices(("a", value))
                self.check_vertices([value, "a", "b"])
                self.check_vertices([value, value])

    def test_strings_that_are_not_names(self):
        words = ["", "A", "aA", "Ab", "a1", "1", "a_b", "_", "a ", " a", " ", "a\n", "\n", "a-b", "a.b"]
        words += ["abc,", "a\x00", "`", "{", "@"]
        words += ["abcdefghi", "a" * 9, "a" * 100, "\u00e4", "a\u00df", "\u03b1", "\u0430", "\uff41", "\u00aa"]
        for word in words:
            with self.subTest(word):
                self.check_vertices([word])
                self.check_vertices(("b", word))
                self.check_vertices([word, "b", "c"])

    def test_edges_that_are_not_a_row(self):
        for at, value in enumerate(samples.not_rows()):
            with self.subTest(at):
                self.check(["a", "b"], value, "edges")

    def test_nineteen_edges_and_more(self):
        vertices = list("abcdefgh")
        every = samples.all_edges(vertices)
        for many in range(19, 29):
            self.check(vertices, every[:many], "edges")
            self.check(vertices, tuple(every[-many:]), "edges")
        self.check(vertices, [every[0]] * 19, "edges")

    def test_a_duplicate_edge(self):
        for edge in EDGES:
            for row in [[edge, edge], (edge, edge), EDGES + [edge], (edge, *EDGES), [edge] * 18]:
                self.check(list("abcd"), row, "edges")

    def test_a_reversed_edge(self):
        for low, high in samples.all_edges("abcd"):
            self.check_edge((high, low))

    def test_equal_ends(self):
        for name in "abcd":
            self.check_edge((name, name))

    def test_an_unknown_vertex(self):
        for edge in [("a", "e"), ("a", "z"), ("aa", "b"), ("ab", "cd"), ("a", "bc"), ("e", "f"), ("", "a"), ("A", "b")]:
            self.check_edge(edge)

    def test_a_list_in_place_of_a_tuple(self):
        for low, high in samples.all_edges("abcd"):
            self.check_edge([low, high])

    def test_a_tuple_of_another_length(self):
        for edge in [(), ("a",), ("c", "d", "d"), ("c", "d", None), ("a", "b", "c", "d"), (("c", "d"),)]:
            self.check_edge(edge)

    def test_other_objects_in_place_of_an_edge(self):
        for value in samples.not_rows():
            self.check_edge(value)
            if not isinstance(value, str):
                self.check_edge((value, "d"))
                self.check_edge(("a", value))

    def test_strange_rows_in_place_of_an_edge(self):
        for value in samples.strange_rows():
            self.check_edge(value)
            self.check_edge(("c", value))
            self.check_edge((value, "d"))


class PairsTest(unittest.TestCase):
    def test_example(self):
        expected = [(("a", "b"), ("c", "d")), (("a", "c"), ("b", "d")), (("a", "d"), ("b", "c"))]
        self.assertEqual(pairs(samples.SQUARE), expected)

    def test_every_shape(self):
        for graph in samples.graphs(seeds=4):
            with self.subTest(vertices=graph.vertices, edges=graph.edges):
                found = pairs(graph)
                self.assertIs(type(found), list)
                self.assertEqual(found, samples.pairs_by_definition(graph))
                self.assertEqual(found, sorted(found))

    def test_number_of_pairs_of_complete_graphs(self):
        for size, many in [(1, 0), (2, 0), (3, 0), (4, 3), (5, 15), (6, 45)]:
            self.assertEqual(len(pairs(samples.complete(samples.NAMES[:size]))), many)

    def test_the_list_is_new_each_time(self):
        found = pairs(samples.SQUARE)
        found.clear()
        self.assertEqual(len(pairs(samples.SQUARE)), 3)

    def test_the_order_passed_has_no_effect(self):
        for size, many in samples.shapes():
            vertices, edges = samples.parts(size, many, "pairs")
            expected = pairs(Graph(vertices, edges))
            self.assertEqual(pairs(Graph(vertices[::-1], edges[::-1])), expected)
            self.assertEqual(pairs(Graph(tuple(sorted(vertices)), tuple(sorted(edges)))), expected)

    def test_the_graph_does_not_change(self):
        for graph in samples.graphs(seeds=1):
            before = (graph.vertices, graph.edges)
            pairs(graph)
            self.assertEqual((graph.vertices, graph.edges), before)
