import copy
import itertools
import random
import unittest

from crossparity.drawings import Drawing
from crossparity.errors import NoDrawing
from crossparity.graphs import Graph, pairs
from crossparity.planes import flat, judge_flat
from tests import families, geometry, samples

K5, K33, K4 = families.K5, families.K33, families.K4


def edges_on(path):
    return [families.edge_of(one, other) for one, other in zip(path, path[1:])]


def witness_of(paths):
    """The witness that belongs to paths, also to those that are no subdivision, without wrong or equal pairs."""
    found = set()
    for one, other in itertools.combinations(paths, 2):
        if not {one[0], one[-1]} & {other[0], other[-1]}:
            found |= {families.edge_of(e, f) for e in edges_on(one) for f in edges_on(other) if not set(e) & set(f)}
    return sorted(found)


def along(edges):
    """The paths of one edge each."""
    return sorted(edges)


def some_sets(seed, rows):
    return random.Random(seed).sample(rows, len(rows))


def straight(graph):
    return {edge: [] for edge in graph.edges}


class JudgeFlatTestCase(unittest.TestCase):
    def check(self, graph, told, expected):
        before = copy.deepcopy(told)
        self.assertEqual(judge_flat(graph, told), expected)
        self.assertEqual(told, before)

    def check_paths(self, graph, word, paths, expected):
        """Check paths in several orders, with the witness that belongs to them."""
        witness = [pair for pair in witness_of(paths) if pair in pairs(graph)]
        for row in [paths, tuple(paths), paths[::-1], some_sets("paths", paths)]:
            self.check(graph, ("subdivision", word, row, witness), expected)

    def subdivisions(self):
        return [(graph, flat(graph)) for graph in families.nonplanar_graphs(seeds=1)]

    def drawings(self):
        return [(graph, flat(graph)) for graph in families.planar_graphs()[::3]]


class DrawingTest(JudgeFlatTestCase):
    def test_results_of_flat(self):
        for graph, told in self.drawings():
            self.check(graph, told, "right")
            self.check(Graph(list(graph.vertices), graph.edges[::-1]), told, "right")

    def test_another_graph(self):
        for graph, (word, drawing) in self.drawings():
            if len(graph.vertices) > 1:
                self.check(Graph(graph.vertices[::-1], graph.edges), (word, drawing), "form")
            if len(graph.vertices) < 8:
                self.check(Graph([*graph.vertices, "new"], graph.edges), (word, drawing), "form")
            for edge in graph.edges[:2]:
                part = families.without(graph, edge)
                self.check(part, (word, drawing), "form")
                smaller = Drawing(part, drawing.points, straight(part))
                self.check(graph, (word, smaller), "form")
                self.check(part, (word, smaller), "right")
        self.check(K5, flat(K4), "form")
        self.check(K4, flat(families.TWO_TRIANGLES), "form")

    def bent(self, drawing, edge):
        """The drawing with a bend on an edge, where nothing else is."""
        choice = random.Random(f"{edge}")
        while True:
            bend = samples.some_place(choice, 10 ** 9)
            try:
                return Drawing(drawing.graph, drawing.points, {**drawing.lines, edge: [bend]})
            except NoDrawing:
                continue

    def test_a_bend(self):
        for graph, (word, drawing) in self.drawings():
            for edge in graph.edges[:3]:
                self.check(graph, (word, self.bent(drawing, edge)), "bends")

    def test_a_bend_comes_before_a_crossing(self):
        graph = Graph(list("abcd"), [("a", "c"), ("b", "d")])
        points = {"a": (0, 0), "b": (4, 0), "c": (4, 4), "d": (0, 4)}
        for bends, expected in [([], "crossing"), ([(5, -1)], "bends"), ([(1, 2)], "bends")]:
            drawing = Drawing(graph, points, {("a", "c"): bends, ("b", "d"): []})
            self.check(graph, ("drawing", drawing), expected)

    def test_two_points_exchanged(self):
        seen = []
        for graph, (word, drawing) in self.drawings():
            for one, other in itertools.combinations(graph.vertices, 2):
                points = {**drawing.points, one: drawing.points[other], other: drawing.points[one]}
                try:
                    changed = Drawing(graph, points, straight(graph))
                except NoDrawing:
                    continue
                clear = all(geometry.crossings_by_definition(changed, e, f) == 0
                            for e, f in itertools.combinations(graph.edges, 2))
                seen.append("right" if clear else "crossing")
                self.check(graph, (word, changed), seen[-1])
        self.assertGreater(min(seen.count("right"), seen.count("crossing")), 50)

    def test_any_straight_drawing(self):
        for graph in samples.graphs(seeds=1):
            drawing = samples.some_drawing(graph, "judge", bends=0)
            clear = all(geometry.crossings_by_definition(drawing, e, f) == 0
                        for e, f in itertools.combinations(graph.edges, 2))
            self.check(graph, ("drawing", drawing), "right" if clear else "crossing")

    def test_a_straight_drawing_of_a_graph_that_is_not_planar(self):
        for graph, told in self.subdivisions():
            self.check(graph, ("drawing", samples.some_drawing(graph, "never", bends=0)), "crossing")

    def test_other_forms(self):
        for graph, (word, drawing) in self.drawings()[::5]:
            tolds = [drawing, (drawing,), (word,), (drawing, word), [word, drawing], (word, drawing, None),
                     (word, [drawing]), (word, drawing, [], []), ("Drawing", drawing), ("flat", drawing),
                     ("drawing ", drawing), ("subdivision", drawing), (word, graph), (word, drawing.points), ()]
            for told in tolds:
                self.check(graph, told, "form")


class SubdivisionTest(JudgeFlatTestCase):
    def test_results_of_flat_in_any_order(self):
        for graph, (kind, word, paths, witness) in self.subdivisions():
            for row, record in itertools.product([paths, paths[::-1], some_sets(1, paths)],
                                                 [witness, witness[::-1], some_sets(2, witness)]):
                self.check(graph, (kind, word, row, record), "right")
                self.check(graph, (kind, word, tuple(row), record), "right")
                self.check(graph, (kind, word, row, tuple(record)), "right")
                self.check(graph, (kind, word, tuple(row), tuple(record)), "right")

    def test_the_graph_in_another_order(self):
        for graph, told in self.subdivisions():
            self.check(families.shuffled(graph, "judge"), told, "right")

    def test_a_subdivision_of_a_part_of_the_graph(self):
        for seed in range(12):
            for word, size in [("K5", 5), ("K5", 7), ("K5", 8), ("K33", 6), ("K33", 8)]:
                core = families.some_subdivision(size, word, f"part {seed}")
                told = flat(core)
                larger = families.some_larger(core, 18, seed)
                self.check(larger, told, "right")
                if size < 8:
                    self.check(Graph(["new", *larger.vertices], larger.edges), told, "right")

    def test_another_choice_in_k6(self):
        for names in itertools.combinations("abcdef", 5):
            paths = along(samples.all_edges(names))
            self.check_paths(families.K6, "K5", paths, "right")
        for three in itertools.combinations("abcdef", 3):
            rest = [name for name in "abcdef" if name not in three]
            paths = along(families.bipartite(three, rest).edges)
            self.check_paths(families.K6, "K33", paths, "right")
        longer = [path for path in samples.all_edges("abcde") if path != ("a", "b")] + [("a", "f", "b")]
        self.check_paths(families.K6, "K5", longer, "right")

    def test_a_path_missing_twice_or_reversed(self):
        for graph, (kind, word, paths, witness) in self.subdivisions():
            for at, path in enumerate(paths):
                rest = paths[:at] + paths[at + 1:]
                for row in [rest, paths + [path], rest + [rest[0]], rest + [path[::-1]], rest + [list(path)],
                            rest + [path[:1]], rest + [()], rest + [path + path[:1]], rest + [path + ("new",)],
                            rest + [(path,)], rest + [None], rest + ["".join(path)]]:
                    self.check(graph, (kind, word, row, witness), "paths")
            self.check(graph, (kind, word, [], witness), "paths")
            self.check(graph, (kind, word, [], []), "paths")

    def test_the_other_word(self):
        for graph, (kind, word, paths, witness) in self.subdivisions():
            other = "K33" if word == "K5" else "K5"
            for wrong in [other, "", "k5", "K5 ", "K3,3", "K", "subdivision", word + word]:
                self.check(graph, (kind, wrong, paths, witness), "paths")
                self.check(graph, (kind, wrong, paths, []), "paths")

    def test_nine_paths_of_a_prism(self):
        graph = Graph(list("abcxyzgh"), families.PRISM.edges)
        self.check_paths(graph, "K33", along(families.PRISM.edges), "paths")
        self.check_paths(families.some_larger(graph, 18, "prism"), "K33", along(families.PRISM.edges), "paths")

    def test_every_nine_edges_of_k6(self):
        """Exactly the ten ways to divide six vertices into two groups are right."""
        right = [set(families.bipartite(three, set("abcdef") - set(three)).edges)
                 for three in itertools.combinations("abcdef", 3)]
        found = 0
        for at, edges in enumerate(itertools.combinations(families.K6.edges, 9)):
            expected = "right" if set(edges) in right else "paths"
            self.assertEqual(judge_flat(families.K6, ("subdivision", "K33", edges, witness_of(edges))), expected)
            found += expected == "right"
        self.assertEqual(found, 10)

    def test_ten_edges_that_are_no_k5(self):
        found = 0
        for edges in itertools.combinations(families.K6.edges, 10):
            expected = "right" if len({name for edge in edges for name in edge}) == 5 else "paths"
            self.assertEqual(judge_flat(families.K6, ("subdivision", "K5", edges, witness_of(edges))), expected)
            found += expected == "right"
        self.assertEqual(found, 6)

    def test_nine_edges_between_three_and_four_vertices(self):
        for three, four in [("ace", "bdfg"), ("bdf", "aceg"), ("abc", "defg"), ("efg", "abcd")]:
            graph, found = families.bipartite(three, four), 0
            for edges in itertools.combinations(graph.edges, 9):
                expected = "right" if len({name for edge in edges for name in edge}) == 6 else "paths"
                self.assertEqual(judge_flat(graph, ("subdivision", "K33", edges, witness_of(edges))), expected)
                found += expected == "right"
            self.assertEqual(found, 4)

    def test_two_paths_through_one_vertex(self):
        for graph, gone, word in [(K5, [("a", "b"), ("c", "d")], "K5"), (K33, [("a", "b"), ("c", "d")], "K33")]:
            kept = [edge for edge in graph.edges if edge not in gone]
            through = [("a", "v", "b"), ("c", "v", "d")]
            larger = Graph([*graph.vertices, "v"], kept + [(name, "v") for name in "abcd"])
            self.check_paths(larger, word, sorted(kept + through), "paths")
            apart = [("a", "v", "b"), ("c", "w", "d")]
            more = [("a", "v"), ("b", "v"), ("c", "w"), ("d", "w")]
            self.check_paths(Graph([*graph.vertices, "v", "w"], kept + more), word, sorted(kept + apart), "right")

    def test_a_branch_vertex_inside_a_path(self):
        for graph, gone, detour, word in [(K5, ("a", "b"), ("a", "c", "b"), "K5"),
                                          (K33, ("a", "b"), ("a", "d", "c", "b"), "K33")]:
            paths = [edge for edge in graph.edges if edge != gone] + [detour]
            self.check_paths(graph, word, sorted(paths), "paths")
            self.check_paths(families.without(graph, gone), word, sorted(paths), "paths")

    def test_a_path_that_visits_a_vertex_twice(self):
        graph = Graph(list("abcdevw"), [*K5.edges, ("a", "v"), ("b", "v"), ("v", "w"), ("b", "w")])
        kept = [edge for edge in K5.edges if edge != ("a", "b")]
        self.check_paths(graph, "K5", kept + [("a", "v", "b")], "right")
        self.check_paths(graph, "K5", kept + [("a", "v", "w", "b")], "right")
        for path in [("a", "v", "w", "v", "b"), ("a", "v", "a", "b"), ("a", "b", "v", "b"), ("a", "v", "v", "b"),
                     ("a", "a", "v", "b"), ("a", "b", "b"), ("a", "b", "a", "b"), ("a", "v", "b", "w", "b")]:
            self.check(graph, ("subdivision", "K5", kept + [path], samples.pairs_by_definition(K5)), "paths")

    def test_paths_along_edges_that_the_graph_lacks(self):
        for graph, word in [(K5, "K5"), (K33, "K33")]:
            for edge in graph.edges:
                self.check_paths(families.without(graph, edge), word, along(graph.edges), "paths")
        graph = families.divided(K5, ("a", "b"), "v")
        kept = [edge for edge in K5.edges if edge != ("a", "b")]
        self.check_paths(graph, "K5", kept + [("a", "v", "b")], "right")
        self.check_paths(graph, "K5", kept + [("a", "b")], "paths")

    def test_loops_and_paths_between_the_same_ends(self):
        kept = [edge for edge in K5.edges if edge != ("a", "b")]
        for path in [("a", "a"), ("a",), ("b", "a"), ("c", "d"), ("c", "a", "d"), ("a", "new"), ("new", "newer")]:
            self.check(K5, ("subdivision", "K5", kept + [path], pairs(K5)), "paths")

    def test_a_pair_of_the_witness_missing_or_added(self):
        for graph, (kind, word, paths, witness) in self.subdivisions():
            for pair in pairs(graph)[::3] + witness[::5]:
                self.check(graph, (kind, word, paths, samples.sum_of(witness, [pair])), "witness")
            self.check(graph, (kind, word, paths, []), "witness")
            rest = [pair for pair in pairs(graph) if pair not in witness]
            self.check(graph, (kind, word, paths, rest), "witness")
            if rest:
                self.check(graph, (kind, word, paths, pairs(graph)), "witness")

    def test_another_witness(self):
        for graph, (kind, word, paths, witness) in self.subdivisions():
            for part in samples.witness_basis(graph)[::2]:
                other = samples.sum_of(witness, part)
                self.check(graph, (kind, word, paths, other), "right" if other == witness else "witness")

    def test_a_witness_that_is_no_record(self):
        for graph, (kind, word, paths, witness) in self.subdivisions():
            first, second = witness[0]
            for wrong in [witness[0], (second, first), [first, second], (first, first), first, None, [], {}]:
                for at in [0, 3, len(witness)]:
                    record = witness[:at] + [wrong] + witness[at:]
                    self.check(graph, (kind, word, paths, record), "form")
                    self.check(graph, (kind, word, [], record), "form")
                    self.check(graph, (kind, "other", None, tuple(record)), "form")

    def test_the_order_of_the_checks(self):
        witness = pairs(K5)
        for word, row, record, expected in [
            ("K5", along(K5.edges), witness, "right"), ("K5", along(K5.edges), witness[1:], "witness"),
            ("K5", [], witness[1:], "paths"), ("K5", [None], [], "paths"), ("K5", [], [None], "form"),
            ("other", along(K5.edges), witness[1:], "paths"), (5, along(K5.edges), witness, "form"),
            ("K5", None, witness, "form"), ("K5", along(K5.edges), None, "form"),
            ("K5", {path: 1 for path in K5.edges}, witness, "form"), ("K5", set(K5.edges), witness, "form"),
        ]:
            self.check(K5, ("subdivision", word, row, record), expected)

    def test_example(self):
        self.check(Graph(["a", "b"], [("a", "b")]), ("subdivision", "K5", [], []), "paths")


class AnyObjectTest(JudgeFlatTestCase):
    def foreign(self):
        return samples.not_rows() + samples.strange_rows()

    def judged(self, told, expected="form"):
        for graph in [K5, K4, Graph(["a"], [])]:
            self.assertEqual(judge_flat(graph, told), expected)

    def test_any_object_as_the_result(self):
        for value in self.foreign():
            self.judged(value)
            for told in [(value,), (value, value), (value, value, value), (value, value, value, value), [value]]:
                self.judged(told)

    def test_any_object_as_the_first_word(self):
        drawing = flat(K4)[1]
        for value in self.foreign():
            self.assertEqual(judge_flat(K4, (value, drawing)), "form")
            self.assertEqual(judge_flat(K5, (value, *flat(K5)[1:])), "form")

    def test_any_object_in_place_of_the_drawing(self):
        for value in self.foreign():
            self.judged(("drawing", value))

    def test_any_object_in_place_of_a_part_of_a_subdivision(self):
        kind, word, paths, witness = flat(K5)
        for value in self.foreign():
            if not isinstance(value, str):
                self.assertEqual(judge_flat(K5, (kind, value, paths, witness)), "form")
            row = "paths" if isinstance(value, (list, tuple)) else "form"
            self.assertEqual(judge_flat(K5, (kind, word, value, witness)), row)
            record = "witness" if isinstance(value, (list, tuple)) and len(value) == 0 else "form"
            self.assertEqual(judge_flat(K5, (kind, word, paths, value)), record)

    def test_any_object_inside_a_row(self):
        kind, word, paths, witness = flat(K5)
        for value in self.foreign():
            for at in [0, 4, 9]:
                row = paths[:at] + [value] + paths[at + 1:]
                self.assertEqual(judge_flat(K5, (kind, word, row, witness)), "paths")
                self.assertEqual(judge_flat(K5, (kind, word, row + [value], witness)), "paths")
                self.assertEqual(judge_flat(K5, (kind, word, paths, witness[:at] + [value])), "form")
                for path in [("a", value), (value, "b"), ("a", value, "b"), (value, value)]:
                    self.assertEqual(judge_flat(K5, (kind, word, paths[:-1] + [path], witness)), "paths")

    def test_tuples_of_another_length(self):
        for graph in [K5, K33]:
            kind, word, paths, witness = told = flat(graph)
            for wrong in [told[:3], told[1:], (*told, None), (*told, witness), (kind,), (kind, word), (kind, paths),
                          list(told), (kind, paths, word, witness), (word, kind, paths, witness),
                          (kind, word, witness, paths), ("drawing", word, paths, witness)]:
                self.check(graph, wrong, "form")
