import copy
import itertools
import random
import unittest

from crossparity.carries import carried, convex
from crossparity.drawings import Drawing, crossings, record_of
from crossparity.errors import NoDrawing, NoEdge
from crossparity.graphs import Graph, pairs
from crossparity.leads import drawable, leading
from crossparity.witnesses import charge
from tests import samples
from tests.geometry import away, cross, crossings_by_definition, path_of

FAR = 10 ** 30
TWO_EDGES = Graph(["a", "b", "c", "d"], [("a", "c"), ("b", "d")])
CORNERS = {"a": (0, 0), "b": (4, 0), "c": (4, 4), "d": (0, 4)}


def is_inside(place, corners):
    turns = [cross(away(corners[at - 1], corners[at]), away(corners[at - 1], place)) for at in range(3)]
    return all(turn > 0 for turn in turns) or all(turn < 0 for turn in turns)


def pulled(drawing, edge, at, place):
    """The drawing with a segment of an edge replaced by two, and the corners of the triangle; None if not general."""
    path = path_of(drawing, edge)
    bends = list(drawing.lines[edge])
    bends.insert(at, place)
    try:
        changed = Drawing(drawing.graph, drawing.points, {**drawing.lines, edge: bends})
    except NoDrawing:
        return None
    return changed, [path[at], place, path[at + 1]]


class CrossingsTest(unittest.TestCase):
    def check(self, drawing):
        """Check the numbers of every two edges, and return them."""
        found = []
        for one, other in itertools.combinations(drawing.graph.edges, 2):
            number = crossings(drawing, one, other)
            self.assertIs(type(number), int)
            self.assertEqual(number, crossings_by_definition(drawing, one, other))
            self.assertEqual(crossings(drawing, other, one), number)
            found.append(number)
        return found

    def test_example(self):
        drawing = Drawing(TWO_EDGES, CORNERS, {("a", "c"): [], ("b", "d"): []})
        self.assertEqual(crossings(drawing, ("a", "c"), ("b", "d")), 1)

    def test_every_shape(self):
        found = []
        for graph in samples.graphs(seeds=1):
            found += self.check(samples.some_drawing(graph, 0, reach=50, bends=0))
            if len(graph.edges) <= 12:
                found += self.check(samples.some_drawing(graph, 0, reach=1000, bends=3))
        self.assertEqual({0, 1, 2, 3} - set(found), set())

    def test_small_coordinates(self):
        """Here many segments cross in one place, and many ends lie on the lines of other segments."""
        found = []
        for graph in samples.graphs(seeds=1):
            if len(graph.edges) <= 6 and len(graph.vertices) <= 6:
                for seed, reach in itertools.product(range(4), [4, 6, 9]):
                    found += self.check(samples.some_drawing(graph, seed, reach=reach, bends=2))
        self.assertEqual({0, 1, 2, 3} - set(found), set())

    def test_every_two_segments_of_a_small_square(self):
        places = list(itertools.product(range(3), repeat=2))
        many = 0
        for ends in itertools.permutations(places, 4):
            try:
                drawing = Drawing(TWO_EDGES, dict(zip("acbd", ends)), {edge: [] for edge in TWO_EDGES.edges})
            except NoDrawing:
                continue
            many += self.check(drawing)[0]
        self.assertGreater(many, 0)

    def test_edges_with_a_common_vertex(self):
        graph = Graph(["a", "b", "c"], [("a", "b"), ("a", "c")])
        points = {"a": (0, 0), "b": (9, 0), "c": (0, 9)}
        for bends, expected in [([], 0), ([(3, -3)], 1), ([(3, 4), (6, -3)], 2), ([(3, -3), (6, 3), (7, -2)], 3)]:
            drawing = Drawing(graph, points, {("a", "b"): [], ("a", "c"): bends})
            self.assertEqual(self.check(drawing), [expected])
        for turn in itertools.product([-1, 1], repeat=2):
            turned = {name: (x * turn[0], y * turn[1]) for name, (x, y) in points.items()}
            self.assertEqual(self.check(Drawing(graph, turned, {("a", "b"): [], ("a", "c"): []})), [0])

    def test_straight_edges_at_one_vertex_do_not_cross(self):
        graph = Graph(["m", "a", "z", "b", "y"], [("a", "m"), ("m", "z"), ("b", "m"), ("m", "y"), ("a", "b")])
        for seed in range(40):
            drawing = samples.some_drawing(graph, seed, reach=6, bends=0)
            for one, other in itertools.combinations(graph.edges, 2):
                if set(one) & set(other):
                    self.assertEqual(crossings(drawing, one, other), 0)

    def test_several_segments_pass_one_place(self):
        names = list("abcdefgh")
        graph = Graph(names, list(zip(names[::2], names[1::2])))
        ends = [(6, 0), (-6, 0), (0, 5), (0, -5), (4, 4), (-4, -4), (3, -3), (-3, 3)]
        lines = {edge: [] for edge in graph.edges}
        self.assertEqual(self.check(Drawing(graph, dict(zip(names, ends)), lines)), [1] * 6)
        # The first edge now passes the place three times, and so crosses itself there.
        lines["a", "b"] = [(-5, 0), (-4, 12), (-2, 6), (2, -6), (3, -12), (7, -7), (4, -2), (-8, 4)]
        drawing = Drawing(graph, dict(zip(names, ends)), lines)
        self.assertEqual(len([1 for number in self.check(drawing)[:3] if number >= 3]), 3)

    def test_a_segment_that_ends_on_the_line_but_beside_the_segment(self):
        for c, d, expected in [((6, 0), (6, 3), 0), ((6, 0), (3, 3), 0), ((-1, 0), (-1, -2), 0), ((2, 3), (2, -1), 1)]:
            drawing = Drawing(TWO_EDGES, {"a": (0, 0), "c": (4, 0), "b": c, "d": d}, {("a", "c"): [], ("b", "d"): []})
            self.assertEqual(self.check(drawing), [expected])

    def test_moving_one_bend_by_one_near_the_farthest_coordinates(self):
        for turn, swap in itertools.product([-1, 1], [False, True]):
            def place(x, y):
                return (turn * y, turn * x) if swap else (turn * x, turn * y)

            points = {"a": place(-FAR, -FAR), "c": place(FAR, FAR - 1)}
            points |= {"b": place(FAR, -FAR), "d": place(FAR - 9, 1 - FAR)}
            for x, y, expected in [
                (FAR - 1, FAR - 2, 0), (FAR - 1, FAR - 1, 2), (FAR - 7, FAR - 8, 0), (FAR - 7, FAR - 7, 2),
                (1 - FAR, -FAR, 0), (1 - FAR, 1 - FAR, 2), (0, -1, 0), (0, 0, 2),
            ]:
                drawing = Drawing(TWO_EDGES, points, {("a", "c"): [], ("b", "d"): [place(x, y)]})
                self.assertEqual(crossings(drawing, ("a", "c"), ("b", "d")), expected)
                self.assertEqual(crossings_by_definition(drawing, ("a", "c"), ("b", "d")), expected)

    def test_bends_close_to_a_long_segment(self):
        choice = random.Random("close")
        found = []
        for step in range(300):
            start, end = samples.some_place(choice, FAR), samples.some_place(choice, FAR)
            bends = []
            for part in sorted(choice.sample(range(1, 1000), 6)):
                x, y = [low + (high - low) * part // 1000 + choice.randint(-1, 1) for low, high in zip(start, end)]
                bends.append((x, y))
            points = {"a": start, "c": end, "b": samples.some_place(choice, FAR), "d": samples.some_place(choice, FAR)}
            found += self.check(Drawing(TWO_EDGES, points, {("a", "c"): [], ("b", "d"): bends}))
        self.assertGreater(len(set(found)), 4)

    def test_the_drawing_does_not_change(self):
        drawing = samples.some_drawing(samples.SQUARE, 0)
        before = copy.deepcopy(drawing)
        self.check(drawing)
        record_of(drawing).append(None)
        self.assertEqual(drawing, before)
        self.assertEqual(self.check(drawing), self.check(before))


class NoEdgeTest(unittest.TestCase):
    def check(self, drawing, one, other, expected):
        with self.assertRaises(NoEdge) as caught:
            crossings(drawing, one, other)
        self.assertIs(caught.exception.edge, expected)

    def wrong_edges(self):
        wrong = [("c", "a"), ("a", "b"), ("a", "e"), ("x", "y"), ["a", "c"], ("a",), ("a", "c", "c"), ("a", "a")]
        wrong += ["a", "ac", (("a", "c"),), (("a", "c"), ("b", "d")), frozenset("ac"), {"a": "c"}]
        return wrong + samples.not_rows() + samples.strange_rows()

    def test_values_of_any_kind(self):
        drawing = Drawing(TWO_EDGES, CORNERS, {("a", "c"): [], ("b", "d"): []})
        for wrong in self.wrong_edges():
            for edge in TWO_EDGES.edges:
                self.check(drawing, wrong, edge, wrong)
                self.check(drawing, edge, wrong, wrong)
            self.check(drawing, wrong, wrong, wrong)

    def test_the_first_one_before_the_second_one(self):
        drawing = Drawing(TWO_EDGES, CORNERS, {("a", "c"): [], ("b", "d"): []})
        for one, other in itertools.permutations(self.wrong_edges(), 2):
            self.check(drawing, one, other, one)

    def test_one_edge_twice(self):
        for graph in samples.graphs(seeds=1):
            drawing = samples.some_drawing(graph, "twice", bends=1)
            for edge in graph.edges:
                again = tuple(list(edge))
                self.check(drawing, edge, again, again)

    def test_reversed_edges_and_edges_that_the_graph_lacks(self):
        for graph in samples.graphs(seeds=1):
            drawing = samples.some_drawing(graph, "lacks", bends=1)
            for edge in graph.edges:
                back = edge[::-1]
                self.check(drawing, back, edge, back)
                self.check(drawing, edge, back, back)
                for lacking in set(samples.all_edges(samples.NAMES)) - set(graph.edges):
                    self.check(drawing, lacking, edge, lacking)
                    self.check(drawing, edge, lacking, lacking)


class RecordOfTest(unittest.TestCase):
    def test_example(self):
        drawing = Drawing(TWO_EDGES, CORNERS, {("a", "c"): [(5, -1)], ("b", "d"): []})
        self.assertEqual(record_of(drawing), [])

    def test_the_pairs_that_cross_an_odd_number_of_times(self):
        for graph in samples.graphs():
            drawing = samples.some_drawing(graph, "record", bends=2)
            found = record_of(drawing)
            self.assertIs(type(found), list)
            self.assertEqual(found, sorted(found))
            every = samples.pairs_by_definition(graph)
            self.assertEqual(found, [pair for pair in every if crossings_by_definition(drawing, *pair) % 2 == 1])

    def test_the_list_is_new_each_time(self):
        for graph in samples.graphs(seeds=1):
            drawing = samples.some_drawing(graph, "new", bends=1)
            found = record_of(drawing)
            before = list(found)
            found.append(None)
            self.assertEqual(record_of(drawing), before)

    def test_vertices_on_a_parabola(self):
        for graph in samples.graphs():
            for seed in range(3):
                order = samples.some_order(graph, seed)
                points = {vertex: (at, at * at) for at, vertex in enumerate(order)}
                drawing = Drawing(graph, points, {edge: () for edge in graph.edges})
                self.assertEqual(record_of(drawing), convex(graph, order))

    def test_any_two_drawings_of_a_graph(self):
        for graph in samples.graphs():
            records = [record_of(samples.some_drawing(graph, bends, bends=bends)) for bends in range(4)]
            witness = samples.some_witness(graph, "drawings")
            for one, other in itertools.product(records, repeat=2):
                word, carries = leading(graph, one, other)
                self.assertEqual(word, "carries")
                self.assertEqual(carried(graph, one, carries), other)
            for record in records:
                word, carries = drawable(graph, record)
                self.assertEqual(word, "carries")
                self.assertEqual(carried(graph, convex(graph, graph.vertices), carries), record)
                self.assertEqual(charge(graph, record, witness), charge(graph, records[0], witness))

    def test_k5_and_k33_in_every_drawing(self):
        for graph, witness in samples.kuratowski():
            for bends in range(3):
                record = record_of(samples.some_drawing(graph, "kuratowski", bends=bends))
                self.assertEqual(charge(graph, record, witness), 1)

    def test_a_segment_replaced_by_two_sides_of_a_triangle(self):
        moved = []
        for graph in samples.graphs():
            choice = random.Random(f"{graph.vertices} {graph.edges} pulled")
            drawing = samples.some_drawing(graph, "pulled", bends=2)
            for edge in graph.edges:
                at = choice.randint(0, len(drawing.lines[edge]))
                found = pulled(drawing, edge, at, samples.some_place(choice, 2000))
                if found:
                    changed, corners = found
                    over = [vertex for vertex in graph.vertices if is_inside(drawing.points[vertex], corners)]
                    carries = [(edge, vertex) for vertex in over if vertex not in edge]
                    self.assertEqual(record_of(changed), carried(graph, record_of(drawing), carries))
                    moved.append(len(carries))
        self.assertGreater(min(moved.count(0), moved.count(1), moved.count(2)), 20)

    def test_a_triangle_over_an_end_of_the_edge_changes_nothing(self):
        graph = Graph(list("abcd"), [("a", "b"), ("a", "c"), ("a", "d"), ("b", "c"), ("c", "d")])
        points = {"a": (0, 0), "b": (-9, 1), "c": (40, -31), "d": (33, 45)}
        lines = {edge: [] for edge in graph.edges}
        lines["a", "b"] = [(8, 11), (9, -10)]
        drawing = Drawing(graph, points, lines)
        changed, corners = pulled(drawing, ("a", "b"), 1, (-15, 3))
        self.assertTrue(is_inside(points["a"], corners))
        self.assertTrue(is_inside(points["b"], corners))
        self.assertEqual(record_of(changed), record_of(drawing))
        numbers = [crossings(place, ("a", "b"), ("a", "c")) % 2 for place in [drawing, changed]]
        self.assertNotEqual(numbers[0], numbers[1])

    def test_as_many_bends_as_possible(self):
        graph = Graph(*samples.parts(8, 18, "most"))
        choice = random.Random("most")
        points = {vertex: samples.some_place(choice, FAR) for vertex in graph.vertices}
        lines = {edge: [samples.some_place(choice, FAR) for step in range(60)] for edge in graph.edges}
        drawing = Drawing(graph, points, lines)
        record = record_of(drawing)
        self.assertEqual(drawable(graph, record)[0], "carries")
        for pair in pairs(graph)[::30]:
            self.assertEqual(pair in record, crossings_by_definition(drawing, *pair) % 2 == 1)
