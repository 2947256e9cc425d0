import inspect
import pathlib
import subprocess
import sys
import unittest

from crossparity import carries, drawings, errors, fewest, graphs, leads, planes, sketches, witnesses
from tests import samples

ROOT = pathlib.Path(__file__).resolve().parent.parent

ARGUMENTS = {
    (graphs, "Graph"): ["vertices", "edges"],
    (graphs, "pairs"): ["graph"],
    (carries, "flipped"): ["graph", "carry"],
    (carries, "carried"): ["graph", "record", "carries"],
    (carries, "convex"): ["graph", "order"],
    (witnesses, "is_witness"): ["graph", "record"],
    (witnesses, "charge"): ["graph", "record", "witness"],
    (leads, "leading"): ["graph", "one", "other"],
    (leads, "drawable"): ["graph", "record"],
    (leads, "count"): ["graph"],
    (leads, "judge_leading"): ["graph", "one", "other", "told"],
    (drawings, "Drawing"): ["graph", "points", "lines"],
    (drawings, "crossings"): ["drawing", "one", "other"],
    (drawings, "record_of"): ["drawing"],
    (sketches, "draw"): ["graph", "record"],
    (planes, "flat"): ["graph"],
    (planes, "judge_flat"): ["graph", "told"],
    (fewest, "fewest"): ["graph", "most"],
    (fewest, "restricted"): ["graph", "record", "edges"],
    (fewest, "extended"): ["graph", "record", "edge"],
    (errors, "NoGraph"): ["why"],
    (errors, "NoRecord"): ["at"],
    (errors, "NoCarry"): ["at"],
    (errors, "NoDrawing"): ["why"],
    (errors, "NoEdge"): ["edge"],
    (errors, "NotDrawable"): ["witness"],
}


class InterfaceTest(unittest.TestCase):
    def test_names_and_arguments(self):
        for (module, name), arguments in ARGUMENTS.items():
            with self.subTest(name):
                self.assertEqual(list(inspect.signature(getattr(module, name)).parameters), arguments)

    def test_each_module_is_imported_alone(self):
        for path in sorted((ROOT / "crossparity").glob("*.py")):
            name = "crossparity" if path.stem == "__init__" else f"crossparity.{path.stem}"
            with self.subTest(name):
                subprocess.run([sys.executable, "-c", f"import {name}"], cwd=ROOT, check=True)

    def test_equality_stands_in_the_class_itself(self):
        self.assertIn("__eq__", vars(graphs.Graph))
        self.assertIn("__eq__", vars(drawings.Drawing))


class RepeatedCallsTest(unittest.TestCase):
    def test_equal_arguments_give_equal_results_in_lists_of_their_own(self):
        for graph in samples.graphs(seeds=1):
            again = graphs.Graph(list(graph.vertices), list(graph.edges))
            record = samples.pairs_by_definition(graph)
            calls = [lambda g: graphs.pairs(g), lambda g: carries.convex(g, g.vertices)]
            calls.append(lambda g: carries.carried(g, record, []))
            calls.append(lambda g: leads.leading(g, [], record)[1])
            calls.append(lambda g: leads.drawable(g, record)[1])
            calls.append(lambda g: drawings.record_of(samples.some_drawing(g, "again", bends=1)))
            for call in calls:
                first, second = call(graph), call(again)
                self.assertEqual(first, second)
                first.append(None)
                self.assertEqual(call(graph), second)

    def test_results_are_valid_arguments(self):
        for graph in samples.graphs(seeds=1):
            drawing = samples.some_drawing(graph, "valid", bends=1)
            self.assertEqual(drawings.Drawing(drawing.graph, drawing.points, drawing.lines), drawing)
            records = [graphs.pairs(graph), carries.convex(graph, graph.vertices), drawings.record_of(drawing)]
            for record in records:
                self.assertEqual(carries.carried(graph, record, []), record)
                told = leads.drawable(graph, record)
                self.assertEqual(leads.judge_leading(graph, records[1], record, told), "right")
                part, rest = fewest.restricted(graph, record, graph.edges[1:])
                self.assertEqual(fewest.restricted(part, rest, part.edges), (part, rest))
            again = sketches.draw(graph, drawings.record_of(drawing))
            self.assertEqual(drawings.Drawing(again.graph, again.points, again.lines), again)
            self.assertEqual(planes.judge_flat(graph, planes.flat(graph)), "right")
