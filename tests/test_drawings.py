import copy
import itertools
import math
import random
import unittest

from crossparity.drawings import Drawing
from crossparity.errors import NoDrawing
from crossparity.graphs import Graph
from tests import samples

FAR = 10 ** 30
SQUARE = samples.SQUARE
CORNERS = {"a": (0, 0), "b": (9, 1), "c": (8, 7), "d": (1, 6)}
STRAIGHT = {edge: [] for edge in SQUARE.edges}
ONE_EDGE = Graph(["a", "b"], [("a", "b")])


def plans(seeds=1, reach=1000, bends=4):
    """The arguments of drawings in general position, for every shape."""
    for graph in samples.graphs(seeds=seeds):
        drawing = samples.some_drawing(graph, "plan", reach, bends)
        yield graph, dict(drawing.points), {edge: list(drawing.lines[edge]) for edge in graph.edges}


def on_segment(start, end):
    """All places with integer coordinates on a segment, its ends included."""
    across, up = end[0] - start[0], end[1] - start[1]
    steps = math.gcd(across, up)
    return [(start[0] + across * k // steps, start[1] + up * k // steps) for k in range(steps + 1)]


def is_general_by_definition(graph, points, lines):
    places = list(points.values()) + [bend for bends in lines.values() for bend in bends]
    if len(set(places)) < len(places):
        return False
    for low, high in graph.edges:
        path = [points[low], *lines[low, high], points[high]]
        for start, end in zip(path, path[1:]):
            if set(on_segment(start, end)) & set(places) != {start, end}:
                return False
    return True


def wrong_places():
    """Values that are not a tuple of two integers within the bounds."""
    wrong = [[0, 0], [], (), (0,), (0, 0, 0), ((0, 0),), ((0, 0), (0, 0)), "ab", "00", 0, None, {0: 0, 1: 1}, {0, 1}]
    for value in [True, False, 1.0, 0.5, float("nan"), 2j, "1", None, [1], (1,), b"1", FAR + 1, -FAR - 1, 10 ** 31]:
        wrong += [(value, 3), (3, value), (value, value)]
    foreign = samples.not_rows() + samples.strange_rows()
    return wrong + foreign + [(value, 3) for value in foreign if type(value) is not int]


class AttributesTest(unittest.TestCase):
    def test_the_attributes_are_the_arguments(self):
        for graph, points, lines in plans():
            for row in [list, tuple]:
                drawing = Drawing(graph, points, {edge: row(lines[edge]) for edge in lines})
                self.assertEqual(drawing.graph, graph)
                self.assertIs(type(drawing.points), dict)
                self.assertEqual(drawing.points, points)
                self.assertIs(type(drawing.lines), dict)
                self.assertEqual(drawing.lines, {edge: tuple(lines[edge]) for edge in lines})
                self.assertEqual({type(bends) for bends in drawing.lines.values()} - {tuple}, set())

    def test_changing_the_arguments_has_no_effect(self):
        for graph, points, lines in plans():
            before = copy.deepcopy((points, lines))
            drawing = Drawing(graph, points, lines)
            self.assertEqual((points, lines), before)
            for edge in lines:
                lines[edge].append((7, 7))
                lines[edge].reverse()
            lines["new"] = None
            points["new"] = (1, 2)
            points[graph.vertices[0]] = None
            self.assertEqual(drawing.points, before[0])
            self.assertEqual(drawing.lines, {edge: tuple(before[1][edge]) for edge in before[1]})

    def test_an_invalid_call_changes_no_argument(self):
        points, lines = dict(CORNERS, c=None), {edge: [(3, 3)] for edge in SQUARE.edges}
        before = copy.deepcopy((points, lines))
        with self.assertRaises(NoDrawing):
            Drawing(SQUARE, points, lines)
        self.assertEqual((points, lines), before)


class EqualityTest(unittest.TestCase):
    def check(self, one, other, expected):
        self.assertIs(one == other, expected)
        self.assertIs(other == one, expected)
        self.assertIs(one != other, not expected)

    def test_equal_drawings(self):
        for graph, points, lines in plans():
            drawing = Drawing(graph, points, lines)
            self.check(drawing, drawing, True)
            again = Graph(list(graph.vertices), list(graph.edges)[::-1])
            turned = {vertex: points[vertex] for vertex in list(points)[::-1]}
            rows = {edge: tuple(lines[edge]) for edge in list(lines)[::-1]}
            self.check(drawing, Drawing(again, turned, rows), True)

    def test_another_point_or_line(self):
        for graph, points, lines in plans():
            drawing = Drawing(graph, points, lines)
            for vertex in points:
                moved = dict(points)
                moved[vertex] = (5000, 5001)
                self.check(drawing, Drawing(graph, moved, lines), False)
            for edge in lines:
                self.check(drawing, Drawing(graph, points, {**lines, edge: [*lines[edge], (5001, 5003)]}), False)
                if lines[edge]:
                    changed = [(5001, 5003), *lines[edge][1:]]
                    self.check(drawing, Drawing(graph, points, {**lines, edge: changed}), False)

    def test_another_order_of_bends(self):
        bends = [(3, 1), (6, 4), (2, 8)]
        found = [Drawing(ONE_EDGE, {"a": (0, 0), "b": (9, 5)}, {("a", "b"): order})
                 for order in itertools.permutations(bends)]
        for one, other in itertools.combinations(found, 2):
            self.check(one, other, False)

    def test_another_graph(self):
        drawing = Drawing(SQUARE, CORNERS, STRAIGHT)
        self.check(drawing, Drawing(Graph(list("abdc"), SQUARE.edges), CORNERS, STRAIGHT), False)
        fewer = Graph(list("abcd"), SQUARE.edges[1:])
        self.check(drawing, Drawing(fewer, CORNERS, {edge: [] for edge in fewer.edges}), False)

    def test_other_objects(self):
        class Lookalike:
            graph, points, lines = SQUARE, dict(CORNERS), {edge: () for edge in SQUARE.edges}

        drawing = Drawing(SQUARE, CORNERS, STRAIGHT)
        others = [None, 0, "", (), [], {}, SQUARE, CORNERS, (SQUARE, CORNERS, STRAIGHT), Lookalike(), Drawing, object()]
        for other in others:
            self.check(drawing, other, False)


class InvalidTest(unittest.TestCase):
    def check(self, graph, points, lines, why):
        with self.assertRaises(NoDrawing) as caught:
            Drawing(graph, points, lines)
        self.assertEqual(caught.exception.why, why)

    def test_example(self):
        graph = Graph(["a", "b", "c"], [("a", "b")])
        self.check(graph, {"a": (0, 0), "b": (2, 0), "c": (1, 0)}, {("a", "b"): []}, "position")

    def test_values_that_are_not_dicts(self):
        foreign = [value for value in samples.not_rows() + samples.strange_rows() if not isinstance(value, dict)]
        foreign += [list(CORNERS.items()), tuple(CORNERS), CORNERS.items(), set(CORNERS)]
        foreign += [list(STRAIGHT), STRAIGHT.keys()]
        for value in foreign:
            self.check(SQUARE, value, STRAIGHT, "points")
            self.check(SQUARE, value, value, "points")
            self.check(SQUARE, CORNERS, value, "lines")
            self.check(Graph(["a"], []), {"a": (0, 0)}, value, "lines")

    def test_a_missing_key(self):
        for graph, points, lines in plans():
            for vertex in points:
                fewer = {key: points[key] for key in points if key != vertex}
                self.check(graph, fewer, lines, "points")
                self.check(graph, {**fewer, "new": (5000, 5001)}, lines, "points")
                self.check(graph, {**fewer, vertex.upper(): (5000, 5001)}, lines, "points")
            for edge in lines:
                fewer = {key: lines[key] for key in lines if key != edge}
                self.check(graph, points, fewer, "lines")
                for key in [edge[::-1], edge[0], "".join(edge), (*edge, edge[0]), (edge,), frozenset(edge), None]:
                    self.check(graph, points, {**fewer, key: lines[edge]}, "lines")

    def test_an_additional_key(self):
        keys = ["e", "", "A", "ab", 0, -1, None, True, 1.5, (), ("a",), ("b", "a"), ("a", "e"), ("a", "b", "c"), b"a",
                frozenset("ab"), samples.AlwaysEqual(), object(), len, Ellipsis, (None, None), ("a", 1), (1, "a"),
                (("a", "b"), ("c", "d")), ("a", samples.AlwaysEqual())]
        for key in keys:
            self.check(SQUARE, {**CORNERS, key: (20, 31)}, STRAIGHT, "points")
            self.check(SQUARE, {key: (20, 31), **CORNERS}, STRAIGHT, "points")
            self.check(SQUARE, CORNERS, {**STRAIGHT, key: []}, "lines")
            self.check(SQUARE, CORNERS, {key: [], **STRAIGHT}, "lines")
        self.check(SQUARE, {**CORNERS, ("a", "b"): (20, 31)}, STRAIGHT, "points")
        self.check(SQUARE, CORNERS, {**STRAIGHT, "a": []}, "lines")
        self.check(Graph(["a"], []), {"a": (0, 0)}, {("a", "b"): []}, "lines")

    def test_an_additional_key_that_fails_when_it_is_compared(self):
        class Failing:
            """Has the hash of a key, so that looking up this key compares the two."""

            def __init__(self, key):
                self.key = key

            def __hash__(self):
                return hash(self.key)

            def __eq__(self, other):
                raise RuntimeError("compared")

        for vertex in SQUARE.vertices:
            more = {Failing(vertex): (20, 31)}
            more.update((key, CORNERS[key]) for key in CORNERS if key != vertex)
            self.check(SQUARE, more, STRAIGHT, "points")
        for edge in SQUARE.edges:
            more = {Failing(edge): []}
            more.update((key, []) for key in STRAIGHT if key != edge)
            self.check(SQUARE, CORNERS, more, "lines")

    def test_wrong_points(self):
        for value in wrong_places():
            for vertex in ["a", "d"]:
                self.check(SQUARE, {**CORNERS, vertex: value}, STRAIGHT, "points")
                self.check(SQUARE, {**CORNERS, vertex: value}, None, "points")

    def test_wrong_bends(self):
        for value in wrong_places():
            for bends in [[value], (value,), [(3, 2), value], [value, (3, 2)], (value, value)]:
                self.check(SQUARE, CORNERS, {**STRAIGHT, ("b", "c"): bends}, "lines")

    def test_lines_that_are_not_rows(self):
        for value in samples.not_rows():
            for edge in [("a", "b"), ("c", "d")]:
                self.check(SQUARE, CORNERS, {**STRAIGHT, edge: value}, "lines")
        self.check(SQUARE, CORNERS, {**STRAIGHT, ("a", "b"): (3, 2)}, "lines")
        self.check(SQUARE, CORNERS, {**STRAIGHT, ("a", "b"): {(3, 2): (4, 2)}}, "lines")
        self.check(SQUARE, CORNERS, {**STRAIGHT, ("a", "b"): {(3, 2)}}, "lines")

    def test_sixty_bends_and_not_sixty_one(self):
        curve = [(step, step * step) for step in range(1, 62)]
        points = {"a": (0, 0), "b": (62, 62 ** 2)}
        for row in [list, tuple]:
            drawing = Drawing(ONE_EDGE, points, {("a", "b"): row(curve[:60])})
            self.assertEqual(drawing.lines, {("a", "b"): tuple(curve[:60])})
            self.check(ONE_EDGE, points, {("a", "b"): row(curve)}, "lines")
            self.check(ONE_EDGE, points, {("a", "b"): row(curve * 3)}, "lines")
            self.check(ONE_EDGE, points, {("a", "b"): row([(5, 5)] * 61)}, "lines")
            self.check(ONE_EDGE, points, {("a", "b"): row([(5, 5)] * 60)}, "position")

    def test_the_farthest_coordinates(self):
        for x, y in itertools.product([FAR, -FAR, FAR - 1, 1 - FAR, 3], repeat=2):
            points = {"a": (0, 0), "b": (5, 1)}
            drawing = Drawing(ONE_EDGE, {"a": (x, y), "b": (5, 1)}, {("a", "b"): []})
            self.assertEqual(drawing.points, {"a": (x, y), "b": (5, 1)})
            drawing = Drawing(ONE_EDGE, points, {("a", "b"): [(x, y)]})
            self.assertEqual(drawing.lines, {("a", "b"): ((x, y),)})
            for farther in [(x + 1, y), (x - 1, y), (x, y + 1), (x, y - 1)]:
                if max(abs(farther[0]), abs(farther[1])) > FAR:
                    self.check(ONE_EDGE, {"a": farther, "b": (5, 1)}, {("a", "b"): []}, "points")
                    self.check(ONE_EDGE, points, {("a", "b"): [farther]}, "lines")

    def test_points_before_lines_before_position(self):
        colliding = dict(CORNERS, b=(0, 0))
        self.check(SQUARE, None, None, "points")
        self.check(SQUARE, dict(CORNERS, b=None), {}, "points")
        self.check(SQUARE, colliding, {}, "lines")
        self.check(SQUARE, colliding, {**STRAIGHT, ("a", "b"): [None]}, "lines")
        self.check(SQUARE, colliding, {**STRAIGHT, ("a", "b"): [(0, 0)] * 61}, "lines")
        self.check(SQUARE, colliding, STRAIGHT, "position")


class PositionTest(unittest.TestCase):
    def check(self, graph, points, lines):
        """Check the answer of Drawing, and return whether the drawing is in general position."""
        expected = is_general_by_definition(graph, points, lines)
        if expected:
            Drawing(graph, points, lines)
        else:
            with self.assertRaises(NoDrawing) as caught:
                Drawing(graph, points, lines)
            self.assertEqual(caught.exception.why, "position")
        return expected

    def check_line(self, points, bends, expected, edges=(("a", "b"),)):
        graph = Graph(sorted(points), edges)
        lines = {edge: [] for edge in edges}
        lines["a", "b"] = bends
        self.assertEqual(self.check(graph, points, lines), expected)

    def test_small_coordinates(self):
        seen = []
        for graph in samples.graphs(seeds=1):
            if len(graph.edges) <= 8:
                choice = random.Random(f"{graph.vertices} {graph.edges}")
                for reach, bends in itertools.product([1, 2, 3, 5, 8, 13, 20], [0, 1, 2, 3]):
                    for step in range(8):
                        seen.append(self.check(graph, *samples.some_plan(graph, choice, reach, bends)))
        self.assertGreater(min(seen.count(True), seen.count(False)), 1000)

    def test_every_place_of_a_third_vertex_and_of_a_bend(self):
        for x, y in itertools.product(range(-2, 6), repeat=2):
            on_line = (x, y) in [(0, 0), (1, 1), (2, 2), (3, 3)]
            self.check_line({"a": (0, 0), "b": (3, 3), "c": (x, y)}, [], not on_line)
            self.check_line({"a": (0, 0), "b": (3, 3), "c": (5, 9)}, [(x, y)], x != y or on_line and 0 < x < 3)

    def test_equal_places(self):
        points = {"a": (0, 0), "b": (9, 2), "c": (4, 9)}
        for bends in [[(0, 0)], [(9, 2)], [(4, 9)], [(1, 5), (1, 5)], [(1, 5), (2, 8), (1, 5)], [(3, 5), (0, 0)]]:
            self.check_line(points, bends, False)
        for pair in itertools.combinations("abc", 2):
            self.check_line(dict(points, **{pair[0]: points[pair[1]]}), [], False)
        graph = Graph(list("abcd"), [("a", "b"), ("c", "d")])
        points = {"a": (0, 0), "b": (9, 0), "c": (0, 9), "d": (9, 9)}
        self.assertFalse(self.check(graph, points, {("a", "b"): [(4, 5)], ("c", "d"): [(4, 5)]}))
        self.assertTrue(self.check(graph, points, {("a", "b"): [(4, 5)], ("c", "d"): [(4, 4)]}))

    def test_points_of_vertices_without_edges(self):
        graph = Graph(["a", "b", "c"], [])
        self.assertTrue(self.check(graph, {"a": (0, 0), "b": (1, 1), "c": (2, 2)}, {}))
        self.assertFalse(self.check(graph, {"a": (0, 0), "b": (1, 1), "c": (0, 0)}, {}))

    def test_a_polyline_that_turns_back_or_touches_itself(self):
        points = {"a": (0, 0), "b": (9, 0)}
        self.check_line(points, [(5, 0), (3, 0)], False)
        self.check_line(points, [(12, 0)], False)
        self.check_line(points, [(-3, 0)], False)
        self.check_line(points, [(4, 0), (6, 0)], True)
        self.check_line(points, [(5, 5), (3, 0), (5, -5)], True)
        self.check_line(points, [(5, 5), (5, -5), (7, 0), (5, 0)], False)
        self.check_line(points, [(4, 4), (8, 8), (6, 6)], False)
        self.check_line(points, [(6, 6), (9, 9), (3, 3)], False)
        self.check_line(points, [(8, 8), (8, 4), (4, 4)], False)
        self.check_line(points, [(6, 4), (6, -4), (4, -4), (4, 4)], True)

    def test_overlapping_segments(self):
        points = {"a": (0, 0), "b": (9, 0), "c": (3, 0), "d": (15, 0)}
        edges = (("a", "b"), ("c", "d"))
        self.check_line(points, [], False, edges)
        self.check_line(dict(points, d=(6, 0)), [], False, edges)
        self.check_line(dict(points, c=(10, 0)), [], True, edges)
        self.check_line({"a": (0, 0), "b": (4, 0), "c": (8, 0)}, [], False, (("a", "b"), ("a", "c")))
        self.check_line({"a": (0, 0), "b": (4, 0), "c": (-8, 0)}, [], True, (("a", "b"), ("a", "c")))

    def test_several_segments_cross_in_one_place(self):
        names = list("abcdefgh")
        graph = Graph(names, list(zip(names[::2], names[1::2])))
        ends = [(6, 0), (-6, 0), (0, 5), (0, -5), (4, 4), (-4, -4), (3, -3), (-3, 3)]
        lines = {edge: [] for edge in graph.edges}
        self.assertTrue(self.check(graph, dict(zip(names, ends)), lines))
        self.assertFalse(self.check(graph, dict(zip(names, ends)), {**lines, ("a", "b"): [(0, 0)]}))

    def test_a_place_beside_a_long_segment(self):
        for shift in [-1, 0, 1]:
            points = {"a": (-FAR, -FAR), "b": (FAR, FAR - 2), "c": (0, shift - 1)}
            graph = Graph(list("abc"), [("a", "b")])
            if shift == 0:
                with self.assertRaises(NoDrawing):
                    Drawing(graph, points, {("a", "b"): []})
            else:
                self.assertEqual(Drawing(graph, points, {("a", "b"): []}).points, points)

    def test_as_many_bends_as_possible(self):
        choice = random.Random("many")
        graph = Graph(*samples.parts(8, 18, "many"))
        points = {vertex: samples.some_place(choice, FAR) for vertex in graph.vertices}
        lines = {edge: [samples.some_place(choice, FAR) for step in range(60)] for edge in graph.edges}
        Drawing(graph, points, lines)
        edge, other = graph.edges[3], graph.edges[11]
        (ax, ay), (bx, by) = lines[edge][30:32]
        even = ax + (bx - ax) // 2 * 2, ay + (by - ay) // 2 * 2
        lines[edge][31] = even
        Drawing(graph, points, lines)
        lines[other][59] = (ax + even[0]) // 2, (ay + even[1]) // 2
        with self.assertRaises(NoDrawing) as caught:
            Drawing(graph, points, lines)
        self.assertEqual(caught.exception.why, "position")
