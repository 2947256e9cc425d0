import copy
import itertools
import random
import unittest

from crossparity.carries import carried, convex, flipped
from crossparity.errors import NoCarry, NoOrder, NoRecord
from crossparity.graphs import Graph, pairs
from tests import samples
from tests.samples import carried_by_definition, every_carry, flipped_by_definition, some_carries, some_record

SQUARE = samples.SQUARE
CARRY = (("a", "c"), "b")


def side(a, b, c):
    turn = (b[0] - a[0]) * (c[1] - a[1]) - (b[1] - a[1]) * (c[0] - a[0])
    return turn > 0


def convex_by_drawing(graph, order):
    """The pairs that cross if the vertices lie on a parabola, which is as convex as a circle."""
    points = {vertex: (at, at * at) for at, vertex in enumerate(order)}
    found = []
    for pair in samples.pairs_by_definition(graph):
        (a, b), (c, d) = [[points[end] for end in edge] for edge in pair]
        if side(a, b, c) != side(a, b, d) and side(c, d, a) != side(c, d, b):
            found.append(pair)
    return found


def wrong_edges():
    """Edges in the wrong form, or that the complete graph over a, b, c, d lacks, and other objects."""
    wrong = [("b", "a"), ("a", "a"), ["a", "b"], ("a", "e"), ("e", "f"), ("a", "B"), ("", "a")]
    wrong += [(), ("a",), ("a", "b", "c")]
    return wrong + samples.not_rows() + samples.strange_rows()


class FlippedTest(unittest.TestCase):
    def check_none(self, graph, value):
        with self.assertRaises(NoCarry) as caught:
            flipped(graph, value)
        self.assertEqual(caught.exception.at, 0)

    def test_examples(self):
        self.assertEqual(flipped(SQUARE, (("a", "c"), "b")), [(("a", "c"), ("b", "d"))])
        self.check_none(SQUARE, (("a", "c"), "a"))

    def test_every_carry_of_every_shape(self):
        for graph in samples.graphs():
            for carry in every_carry(graph):
                found = flipped(graph, carry)
                self.assertIs(type(found), list)
                self.assertEqual(found, flipped_by_definition(graph, carry))

    def test_the_edge_comes_second_where_it_is_greater(self):
        graph = Graph(list("abcde"), [("a", "b"), ("b", "e"), ("c", "d"), ("b", "c")])
        self.assertEqual(flipped(graph, (("c", "d"), "b")), [(("a", "b"), ("c", "d")), (("b", "e"), ("c", "d"))])

    def test_a_vertex_without_edges_flips_nothing(self):
        graph = Graph(["c", "a", "b"], [("a", "b")])
        self.assertEqual(flipped(graph, (("a", "b"), "c")), [])

    def test_the_list_is_new_each_time(self):
        flipped(SQUARE, CARRY).clear()
        self.assertEqual(len(flipped(SQUARE, CARRY)), 1)

    def test_an_end_of_the_edge(self):
        for graph in samples.graphs(seeds=1):
            for edge in graph.edges:
                self.check_none(graph, (edge, edge[0]))
                self.check_none(graph, (edge, edge[1]))

    def test_an_unknown_vertex(self):
        for vertex in ["e", "z", "ab", "", "A", "bd", ("b",), ["b"], ("b", "d")]:
            self.check_none(SQUARE, (("a", "c"), vertex))
        for value in samples.not_rows() + samples.strange_rows():
            if not isinstance(value, str):
                self.check_none(SQUARE, (("a", "c"), value))

    def test_an_edge_in_the_wrong_form(self):
        for graph in samples.graphs(seeds=1):
            for (low, high), vertex in every_carry(graph):
                self.check_none(graph, ((high, low), vertex))
                self.check_none(graph, ([low, high], vertex))
                self.check_none(graph, ((low, high, vertex), vertex))

    def test_an_edge_that_the_graph_lacks(self):
        for graph in samples.graphs(seeds=1):
            for edge in set(samples.all_edges(graph.vertices)) - set(graph.edges):
                for vertex in graph.vertices:
                    self.check_none(graph, (edge, vertex))

    def test_another_form(self):
        edge = ("a", "c")
        wrong = [[edge, "b"], (edge,), (edge, "b", "d"), ("b", edge), ("a", "c", "b"), edge, "b"]
        wrong += [(edge, ("b",)), (CARRY,), [CARRY]]
        for value in wrong + samples.not_rows() + samples.strange_rows():
            self.check_none(SQUARE, value)

    def test_wrong_edges(self):
        for edge in wrong_edges():
            for vertex in ["b", "d", edge]:
                self.check_none(SQUARE, (edge, vertex))

    def test_a_graph_without_carries(self):
        for graph in [Graph(["a"], []), Graph(["a", "b"], []), Graph(["a", "b"], [("a", "b")])]:
            for value in [(("a", "b"), "c"), (("a", "b"), "a"), (("a", "b"), "b"), (("a", "a"), "b")]:
                self.check_none(graph, value)


class CarriedTest(unittest.TestCase):
    def check_no_record(self, graph, record, carries, at):
        with self.assertRaises(NoRecord) as caught:
            carried(graph, record, carries)
        self.assertEqual(caught.exception.at, at)

    def check_no_carry(self, graph, record, carries, at):
        with self.assertRaises(NoCarry) as caught:
            carried(graph, record, carries)
        self.assertEqual(caught.exception.at, at)

    def test_examples(self):
        found = carried(SQUARE, [(("a", "c"), ("b", "d"))], [(("a", "c"), "b"), (("a", "b"), "c")])
        self.assertEqual(found, [(("a", "b"), ("c", "d"))])
        self.check_no_record(SQUARE, [5], None, 0)

    def test_every_shape(self):
        for graph in samples.graphs():
            for seed in range(3):
                record, carries = some_record(graph, seed), some_carries(graph, seed)
                found = carried(graph, record, carries)
                self.assertIs(type(found), list)
                self.assertEqual(found, carried_by_definition(graph, record, carries))

    def test_lists_and_tuples(self):
        for graph in samples.graphs(seeds=1):
            record, carries = some_record(graph, "row"), some_carries(graph, "row")
            expected = carried(graph, record, carries)
            for row, other in itertools.product([list, tuple], repeat=2):
                self.assertEqual(carried(graph, row(record), other(carries)), expected)

    def test_no_carries_sort_the_record(self):
        for graph in samples.graphs(seeds=1):
            record = some_record(graph, "sorted")
            self.assertEqual(carried(graph, record[::-1], []), sorted(record))
            self.assertEqual(carried(graph, record, ()), sorted(record))

    def test_one_carry_from_the_empty_record(self):
        for graph in samples.graphs(seeds=1):
            for carry in every_carry(graph):
                self.assertEqual(carried(graph, [], [carry]), flipped(graph, carry))
                self.assertEqual(carried(graph, [], [carry] * 2), [])
                self.assertEqual(carried(graph, (), (carry,) * 3), flipped(graph, carry))

    def test_the_order_has_no_effect(self):
        for graph in samples.graphs(seeds=1):
            record, carries = some_record(graph, "order"), some_carries(graph, "order")
            expected = carried(graph, record, carries)
            self.assertEqual(carried(graph, record, carries[::-1]), expected)
            self.assertEqual(carried(graph, record[::-1], sorted(carries)), expected)

    def test_a_second_time_restores_the_record(self):
        for graph in samples.graphs():
            record, carries = some_record(graph, "twice"), some_carries(graph, "twice")
            self.assertEqual(carried(graph, carried(graph, record, carries), carries), sorted(record))
            self.assertEqual(carried(graph, record, carries + carries), sorted(record))

    def test_the_arguments_do_not_change(self):
        for graph in samples.graphs(seeds=1):
            record, carries = some_record(graph, "same"), some_carries(graph, "same")
            before = copy.deepcopy((graph, record, carries))
            found = carried(graph, record, carries)
            found.append(None)
            self.assertEqual((graph, record, carries), before)
            self.check_no_carry(graph, record, carries + [None], len(carries))
            self.assertEqual((graph, record, carries), before)

    def test_a_record_that_is_not_a_row(self):
        for value in samples.not_rows():
            for carries in [[], [CARRY], None, [None]]:
                self.check_no_record(SQUARE, value, carries, -1)

    def check_item(self, item):
        good = pairs(SQUARE)
        for many in range(4):
            self.check_no_record(SQUARE, good[:many] + [item] + good[many:], [], many)
            self.check_no_record(SQUARE, (*good[:many], item, item), None, many)

    def test_an_item_that_is_not_a_pair(self):
        for one, other in pairs(SQUARE):
            wrong = [(other, one), [one, other], (one,), (one, other, one), (one, one), one]
            wrong += [(list(one), other), (one, list(other))]
            wrong += [(one[::-1], other), (one, other[::-1]), (one, "cd"), ("ab", other), (one, None), ((), other)]
            for item in wrong:
                self.check_item(item)

    def test_edges_with_a_common_vertex(self):
        for one, other in itertools.product(SQUARE.edges, repeat=2):
            if set(one) & set(other):
                self.check_item((one, other))

    def test_edges_that_the_graph_lacks(self):
        graph = Graph(list("abcdef"), [("a", "b"), ("c", "d"), ("e", "f")])
        good = pairs(graph)
        lacking = [(("a", "c"), ("b", "d")), (("a", "b"), ("c", "e")), (("a", "d"), ("e", "f"))]
        lacking.append((("a", "b"), ("g", "h")))
        for item in lacking:
            self.check_no_record(graph, [item], [], 0)
            self.check_no_record(graph, good + [item], [], 3)

    def test_other_objects_in_place_of_a_pair(self):
        for value in samples.not_rows() + samples.strange_rows():
            self.check_item(value)
            self.check_item((value, value))
            self.check_item((("a", "b"), value))
            self.check_item((value, ("c", "d")))

    def test_a_duplicate_pair(self):
        good = pairs(SQUARE)
        for first, second in itertools.combinations(range(4), 2):
            record = list(good)
            record.insert(second, record[first])
            self.check_no_record(SQUARE, record, [], second)
            self.check_no_record(SQUARE, tuple(record) + (None,), None, second)
        copied = copy.deepcopy(good[0])
        self.check_no_record(SQUARE, [good[0], copied, None], [], 1)
        self.check_no_record(SQUARE, [good[0], None, copied], [], 1)

    def test_carries_that_are_not_a_row(self):
        for value in samples.not_rows():
            self.check_no_carry(SQUARE, pairs(SQUARE), value, -1)

    def test_the_first_wrong_carry(self):
        good = every_carry(SQUARE)
        wrong = [(("a", "c"), "a"), (("a", "c"), "e"), (("c", "a"), "b")]
        wrong += [(["a", "c"], "b"), [("a", "c"), "b"], ("b", ("a", "c"))]
        for value in wrong + samples.not_rows() + samples.strange_rows():
            for many in [0, 1, 5, len(good)]:
                self.check_no_carry(SQUARE, [], good[:many] + [value] + good, many)
                self.check_no_carry(SQUARE, (), (*good[:many], value, None), many)

    def test_a_repeated_carry_is_no_fault(self):
        self.check_no_carry(SQUARE, [], [CARRY, CARRY, CARRY, None], 3)

    def test_no_record_comes_before_no_carry(self):
        for carries in [None, [None], [CARRY, None], samples.Touchy()]:
            self.check_no_record(SQUARE, None, carries, -1)
            self.check_no_record(SQUARE, [None], carries, 0)
            self.check_no_record(SQUARE, pairs(SQUARE) * 2, carries, 3)


class ConvexTest(unittest.TestCase):
    def check_none(self, graph, order):
        with self.assertRaises(NoOrder):
            convex(graph, order)

    def test_examples(self):
        self.assertEqual(convex(SQUARE, ["a", "b", "c", "d"]), [(("a", "c"), ("b", "d"))])
        self.assertEqual(convex(SQUARE, ["a", "c", "b", "d"]), [(("a", "b"), ("c", "d"))])
        self.check_none(SQUARE, ["a", "b", "c"])

    def test_every_order_of_small_graphs(self):
        for size in range(1, 6):
            graph = samples.complete(samples.NAMES[:size])
            for order in itertools.permutations(graph.vertices):
                self.assertEqual(convex(graph, order), convex_by_drawing(graph, order))

    def test_every_shape(self):
        for graph in samples.graphs():
            for seed in range(4):
                order = random.Random(seed).sample(graph.vertices, len(graph.vertices))
                found = convex(graph, order)
                self.assertIs(type(found), list)
                self.assertEqual(found, sorted(found))
                self.assertEqual(found, convex_by_drawing(graph, order))
                self.assertEqual(convex(graph, tuple(order)), found)

    def test_rotating_and_reversing_have_no_effect(self):
        for graph in samples.graphs():
            order = list(graph.vertices)
            expected = convex(graph, order)
            for at in range(len(order)):
                turned = order[at:] + order[:at]
                self.assertEqual(convex(graph, turned), expected)
                self.assertEqual(convex(graph, turned[::-1]), expected)

    def test_every_four_vertices_contribute_one_pair(self):
        for size in range(4, 7):
            graph = samples.complete(samples.NAMES[:size])
            for order in itertools.permutations(graph.vertices):
                ends = [tuple(sorted(one + other)) for one, other in convex(graph, order)]
                self.assertEqual(sorted(ends), list(itertools.combinations(sorted(order), 4)))

    def test_the_arguments_do_not_change(self):
        for graph in samples.graphs(seeds=1):
            order = list(graph.vertices)[::-1]
            before = copy.deepcopy((graph, order))
            convex(graph, order).append(None)
            self.assertEqual((graph, order), before)
            self.assertEqual(convex(graph, order), convex_by_drawing(graph, order))

    def test_a_missing_vertex(self):
        for graph in samples.graphs(seeds=1):
            for at in range(len(graph.vertices)):
                order = list(graph.vertices)
                del order[at]
                self.check_none(graph, order)
                self.check_none(graph, tuple(order))

    def test_a_duplicate_vertex(self):
        for graph in samples.graphs(seeds=1):
            order = list(graph.vertices)
            for vertex in order:
                self.check_none(graph, order + [vertex])
            for at, to in itertools.permutations(range(len(order)), 2):
                changed = list(order)
                changed[to] = order[at]
                self.check_none(graph, changed)

    def test_an_additional_or_unknown_vertex(self):
        for graph in samples.graphs(seeds=1):
            order = list(graph.vertices)
            for value in ["new", "", "A", None, 0, [], {}, order[0].upper()]:
                self.check_none(graph, order + [value])
                self.check_none(graph, (value, *order))
                for at in range(len(order)):
                    self.check_none(graph, order[:at] + [value] + order[at + 1:])

    def test_other_objects_in_place_of_a_vertex(self):
        for value in samples.not_rows() + samples.strange_rows():
            if not isinstance(value, str):
                self.check_none(SQUARE, [value, "b", "c", "d"])
                self.check_none(SQUARE, ("a", "b", "c", value))
                self.check_none(SQUARE, ["a", "b", "c", "d", value])
                self.check_none(SQUARE, [value] * 4)

    def test_values_that_are_not_rows(self):
        for value in samples.not_rows():
            self.check_none(SQUARE, value)
            self.check_none(Graph(["a"], []), value)
        for value in ["abcd", {"a": 0, "b": 1, "c": 2, "d": 3}, set("abcd"), iter("abcd"), {"a": 0}.keys()]:
            self.check_none(SQUARE, value)
