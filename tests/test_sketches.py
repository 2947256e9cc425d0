import copy
import itertools
import random
import unittest

from crossparity.carries import convex
from crossparity.drawings import Drawing, record_of
from crossparity.errors import NoRecord, NotDrawable
from crossparity.fewest import restricted
from crossparity.graphs import Graph, pairs
from crossparity.leads import count, drawable
from crossparity.sketches import draw
from tests import families, geometry, samples

FAR = 10 ** 30
K5, K33, K4 = families.K5, families.K33, families.K4


def carries_to_try(graph):
    """No carry, one carry, some, half of them, all, all of one edge, and all over one vertex."""
    every = samples.every_carry(graph)
    choice = random.Random(f"{graph.vertices} {graph.edges} tried")
    tried = [[], every, every[::2], samples.some_carries(graph, "tried", many=7)]
    if every:
        tried += [[choice.choice(every)], choice.sample(every, (len(every) + 1) // 2)]
        edge, vertex = choice.choice(every)
        tried.append([carry for carry in every if carry[0] == edge])
        tried.append([carry for carry in every if carry[1] == vertex])
    return tried


def drawn_records(graph):
    start = convex(graph, graph.vertices)
    return [samples.carried_by_definition(graph, start, carries) for carries in carries_to_try(graph)]


def every_set(graph):
    every = pairs(graph)
    return [record for many in range(len(every) + 1) for record in itertools.combinations(every, many)]


class DrawTestCase(unittest.TestCase):
    def check_form(self, graph, drawing):
        self.assertIs(type(drawing), Drawing)
        self.assertEqual(drawing.graph, graph)
        self.assertEqual(set(drawing.points), set(graph.vertices))
        self.assertEqual(set(drawing.lines), set(graph.edges))
        self.assertEqual(Drawing(graph, drawing.points, drawing.lines), drawing)
        for bends in drawing.lines.values():
            self.assertIs(type(bends), tuple)
            self.assertLessEqual(len(bends), 60)
        for place in [*drawing.points.values(), *itertools.chain(*drawing.lines.values())]:
            self.assertEqual([type(place), *map(type, place)], [tuple, int, int])
            self.assertLessEqual(max(map(abs, place)), FAR)

    def check(self, graph, record, counted=True):
        drawing = draw(graph, record)
        self.check_form(graph, drawing)
        self.assertEqual(record_of(drawing), sorted(record))
        if counted:
            self.assertEqual(geometry.record_by_definition(drawing), sorted(record))
        return drawing

    def check_not(self, graph, record):
        with self.assertRaises(NotDrawable) as caught:
            draw(graph, record)
        witness = caught.exception.witness
        self.assertIs(type(witness), list)
        self.assertEqual(witness, sorted(set(witness)))
        self.assertLessEqual(set(witness), set(samples.pairs_by_definition(graph)))
        for carry in samples.every_carry(graph):
            self.assertEqual(samples.parity(witness, samples.flipped_by_definition(graph, carry)), 0)
        start = convex(graph, graph.vertices)
        self.assertNotEqual(samples.parity(witness, start), samples.parity(witness, record))

    def check_either(self, graph, record):
        """Check a record of which the result is not known, and return whether it was drawn."""
        drawn = drawable(graph, record)[0] == "carries"
        if drawn:
            self.check(graph, record, counted=False)
        else:
            self.check_not(graph, record)
        return drawn


class DrawnTest(DrawTestCase):
    def test_examples(self):
        self.assertEqual(record_of(draw(K4, [])), [])
        with self.assertRaises(NotDrawable):
            draw(K5, [])

    def test_every_shape(self):
        for graph in samples.graphs(seeds=1):
            for record in drawn_records(graph):
                self.check(graph, record)

    def test_more_graphs(self):
        for graph in [K5, K33, families.K6, families.K44, families.K35, *families.planar_graphs()[::6]]:
            for record in drawn_records(graph):
                self.check(graph, record, counted=len(graph.edges) < 13)

    def test_eight_vertices_and_eighteen_edges(self):
        for seed in range(6):
            graph = Graph(*samples.parts(8, 18, f"eighteen {seed}"))
            for record in drawn_records(graph):
                drawing = self.check(graph, record, counted=seed == 0)
            self.assertTrue(geometry.is_general(drawing))

    def test_general_position(self):
        for graph in samples.graphs(seeds=1):
            if len(graph.edges) % 5 == 0:
                for record in drawn_records(graph)[:3]:
                    self.assertTrue(geometry.is_general(draw(graph, record)))

    def test_every_single_carry(self):
        for graph in [K4, K5, K33, Graph(*samples.parts(7, 12, "single")), Graph(*samples.parts(8, 9, "single"))]:
            start = convex(graph, graph.vertices)
            for carry in samples.every_carry(graph):
                self.check(graph, samples.carried_by_definition(graph, start, [carry]), counted=False)

    def test_the_convex_record_of_any_order(self):
        for graph in samples.graphs(seeds=1):
            for seed in range(2):
                self.check(graph, convex(graph, samples.some_order(graph, seed)), counted=False)

    def test_the_record_of_any_drawing(self):
        for graph in samples.graphs(seeds=1):
            for bends in [0, 1, 3]:
                self.check(graph, record_of(samples.some_drawing(graph, "any", bends=bends)), counted=False)

    def test_the_empty_record_of_planar_graphs(self):
        for graph in families.planar_graphs():
            self.check(graph, [], counted=False)


class EverySetTest(DrawTestCase):
    def small_graphs(self):
        found = [graph for graph in samples.graphs(seeds=2) if len(pairs(graph)) <= 6]
        return found + [families.without(K4, ("a", "b")), families.wheel("abcd", "h")]

    def test_as_many_sets_are_drawn_as_count_says(self):
        for graph in self.small_graphs():
            self.assertEqual(sum(self.check_either(graph, record) for record in every_set(graph)), count(graph))

    def test_two_triangles(self):
        drawn = 0
        for record in every_set(families.TWO_TRIANGLES):
            if len(record) % 2 == 0:
                self.check(families.TWO_TRIANGLES, record, counted=len(record) == 4)
                drawn += 1
            else:
                self.check_not(families.TWO_TRIANGLES, record)
        self.assertEqual(drawn, 256)
        self.assertEqual(count(families.TWO_TRIANGLES), 256)

    def test_k5_and_k33_have_exactly_the_sets_with_an_odd_number_of_pairs(self):
        for graph in [K5, K33]:
            every = pairs(graph)
            few = [list(itertools.combinations(every, many)) for many in [0, 1, 2, len(every) - 1, len(every)]]
            for record in [*itertools.chain(*few), *(samples.some_record(graph, seed) for seed in range(150))]:
                if len(record) % 2 == 1:
                    self.check(graph, record, counted=False)
                else:
                    self.check_not(graph, record)

    def test_every_set_of_k4(self):
        for order in itertools.permutations("abcd"):
            for record in every_set(K4):
                self.check(Graph(order, K4.edges), record)

    def test_every_set_of_forests(self):
        for seed in range(25):
            graph = samples.some_forest(seed)
            if len(pairs(graph)) <= 6:
                for record in every_set(graph):
                    self.check(graph, record)
            for record in [samples.some_record(graph, draft) for draft in range(6)]:
                self.check(graph, record, counted=False)

    def test_any_set_of_every_shape(self):
        drawn = []
        for graph in samples.graphs(seeds=1):
            for seed in range(3):
                record = samples.some_record(graph, f"set {seed}")
                drawn.append(self.check_either(graph, record))
                self.assertEqual(drawn[-1], families.is_drawn_by_definition(graph, record))
        self.assertGreater(min(drawn.count(True), drawn.count(False)), 50)

    def test_one_pair_of_a_k5_or_k33_too_many(self):
        for graph, witness in samples.kuratowski():
            record = families.drawn_record(graph, "many")
            self.check(graph, record, counted=False)
            for pair in witness[::4]:
                self.check_not(graph, samples.sum_of(record, [pair]))


class ArgumentsTest(DrawTestCase):
    def test_lists_and_tuples_in_any_order_give_an_equal_drawing(self):
        for graph in samples.graphs(seeds=1):
            again = Graph(list(graph.vertices), list(graph.edges)[::-1])
            record = families.drawn_record(graph, "rows")
            before = copy.deepcopy(record)
            drawing = draw(graph, record)
            for row in [list(record), tuple(record), copy.deepcopy(record)]:
                self.assertEqual(draw(graph, row), drawing)
                self.assertEqual(draw(again, row), drawing)
            for row in [record[::-1], sorted(record), tuple(sorted(record)[::-1])]:
                self.assertEqual(record_of(draw(graph, row)), sorted(record))
            self.assertEqual(record, before)

    def test_changing_the_arguments_later_changes_no_drawing(self):
        for graph in samples.graphs(seeds=1):
            record = families.drawn_record(graph, "later")
            vertices, edges = list(graph.vertices), list(graph.edges)
            drawing = draw(Graph(vertices, edges), record)
            points, lines = dict(drawing.points), dict(drawing.lines)
            vertices.clear()
            edges.clear()
            record.append(None)
            self.assertEqual((drawing.graph, drawing.points, drawing.lines), (graph, points, lines))

    def test_a_drawing_belongs_to_the_caller(self):
        for graph in [K4, K33, Graph(*samples.parts(8, 18, "caller"))]:
            record = families.drawn_record(graph, "caller")
            first, second = draw(graph, record), draw(graph, record)
            first.points.clear()
            first.lines.clear()
            self.assertEqual(draw(graph, record), second)

    def test_a_witness_belongs_to_the_caller(self):
        for word in ["once", "again"]:
            with self.assertRaises(NotDrawable) as caught:
                draw(K5, [])
            self.assertEqual(caught.exception.witness, pairs(K5), word)
            caught.exception.witness.clear()

    def test_the_order_of_a_record_that_is_not_drawable(self):
        for record in itertools.permutations(pairs(K5)[:4]):
            for row in [list, tuple]:
                value = row(record)
                self.check_not(K5, value)
                self.assertEqual(value, row(record))

    def check_no_record(self, graph, record, at):
        with self.assertRaises(NoRecord) as caught:
            draw(graph, record)
        self.assertEqual(caught.exception.at, at)

    def test_no_record_comes_before_not_drawable(self):
        for graph in [K5, K33]:
            good = pairs(graph)[:2]
            for value in samples.not_rows():
                self.check_no_record(graph, value, -1)
            for value in samples.not_rows() + samples.strange_rows():
                for at in range(3):
                    self.check_no_record(graph, [*good[:at], value, *good[at:]], at)
            self.check_no_record(graph, good + good[:1], 2)
            self.check_no_record(graph, (*good, good[1], None), 2)
            self.check_no_record(graph, [good[0][::-1]], 0)


class MadeFromDrawingsTest(DrawTestCase):
    def test_drawings_side_by_side(self):
        for first, second, both in families.side_by_side():
            one, other = families.drawn_record(first, "side"), families.drawn_record(second, "side")
            left, right = draw(first, one), draw(second, other)

            def moved(place):
                return place[0] + 10 ** 20, place[1]

            points = {**left.points, **{name: moved(place) for name, place in right.points.items()}}
            lines = {**left.lines, **{edge: [moved(bend) for bend in right.lines[edge]] for edge in right.lines}}
            record = record_of(Drawing(both, points, lines))
            self.assertEqual(record, sorted(one + other))
            self.check(both, record)
            self.assertEqual(restricted(both, record, first.edges)[1], sorted(one))
            self.assertEqual(restricted(both, record, second.edges)[1], sorted(other))

    def test_renamed_drawings(self):
        for graph in samples.graphs(seeds=1):
            record = families.drawn_record(graph, "renamed")
            drawing = draw(graph, record)
            names = families.new_names(graph, "renamed")
            points = {names[vertex]: drawing.points[vertex] for vertex in graph.vertices}
            lines = {}
            for edge in graph.edges:
                kept = names[edge[0]] < names[edge[1]]
                lines[families.renamed_edge(names, edge)] = drawing.lines[edge] if kept else drawing.lines[edge][::-1]
            other = families.renamed(names, graph)
            expected = families.renamed_record(names, record)
            self.assertEqual(record_of(Drawing(other, points, lines)), expected)
            self.check(other, expected, counted=False)

    def test_drawings_of_which_some_edges_are_left_out(self):
        for graph in samples.graphs(seeds=1):
            record = families.drawn_record(graph, "left out")
            drawing = draw(graph, record)
            choice = random.Random(f"{graph.edges} left out")
            for seed in range(2):
                kept = choice.sample(graph.edges, choice.randint(0, len(graph.edges)))
                part = Graph(graph.vertices, kept)
                smaller = Drawing(part, drawing.points, {edge: drawing.lines[edge] for edge in kept})
                self.assertEqual(restricted(graph, record, kept), (part, record_of(smaller)))
                self.check(part, record_of(smaller), counted=False)

    def test_drawable_agrees_with_draw(self):
        for graph in samples.graphs(seeds=1):
            for record in [samples.some_record(graph, "agrees"), families.drawn_record(graph, "agrees")]:
                word, row = drawable(graph, record)
                try:
                    draw(graph, record)
                    self.assertEqual(word, "carries")
                except NotDrawable as error:
                    self.assertEqual((word, row), ("witness", error.witness))
