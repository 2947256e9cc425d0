"""NoRecord, for every function that takes a record."""

import copy
import itertools
import unittest

from crossparity.carries import carried
from crossparity.errors import NoRecord
from crossparity.fewest import extended, restricted
from crossparity.graphs import Graph, pairs
from crossparity.leads import drawable, judge_leading, leading
from crossparity.sketches import draw
from crossparity.witnesses import charge, is_witness
from tests import samples

SQUARE = samples.SQUARE
LACKING = Graph(list("abcdef"), [("a", "b"), ("a", "c"), ("b", "d"), ("c", "d"), ("e", "f")])

# Each call takes the record to be checked, and what stands behind it in the arguments.
CALLS = {
    "carried": lambda graph, record, behind: carried(graph, record, behind),
    "is_witness": lambda graph, record, behind: is_witness(graph, record),
    "charge": lambda graph, record, behind: charge(graph, record, behind),
    "charge, witness": lambda graph, record, behind: charge(graph, pairs(graph), record),
    "leading": lambda graph, record, behind: leading(graph, record, behind),
    "leading, other": lambda graph, record, behind: leading(graph, pairs(graph)[:2], record),
    "drawable": lambda graph, record, behind: drawable(graph, record),
    "judge_leading": lambda graph, record, behind: judge_leading(graph, record, behind, behind),
    "judge_leading, other": lambda graph, record, behind: judge_leading(graph, [], record, behind),
    "draw": lambda graph, record, behind: draw(graph, record),
    "restricted": lambda graph, record, behind: restricted(graph, record, behind),
    "extended": lambda graph, record, behind: extended(graph, record, behind),
}


def behinds():
    """What stands behind a wrong record: nothing of it is looked at, right or wrong."""
    return [[], None, [None], pairs(SQUARE) * 2, ("carries", []), samples.Touchy()]


def wrong_pairs(graph):
    """Items that are nearly pairs of the graph: its edges in other forms, and edges that it lacks."""
    wrong = []
    for one, other in pairs(graph):
        wrong += [(other, one), (one, one), (other, other), [one, other], (one,), (one, other, one), one]
        wrong += [(list(one), other), (one, list(other)), (one[::-1], other), (one, other[::-1])]
        wrong += [(one, None), (one, one[0]), ("".join(one), other), (one, ()), ((), other), (*one, *other)]
    wrong += [pair for pair in itertools.product(graph.edges, repeat=2) if set(pair[0]) & set(pair[1])]
    lacking = [edge for edge in samples.all_edges("abcdefg") if edge not in graph.edges]
    for one, other in itertools.product(lacking, [*graph.edges, *lacking]):
        wrong += [(one, other), (other, one)]
    return wrong


class NoRecordTest(unittest.TestCase):
    def check(self, name, graph, record, at, behind=None):
        with self.assertRaises(NoRecord) as caught:
            CALLS[name](graph, record, behind)
        self.assertEqual(caught.exception.at, at)
        self.assertIs(type(caught.exception.at), int)

    def check_item(self, name, graph, item, behind=None):
        good = pairs(graph)
        for many in [0, 1, len(good)]:
            self.check(name, graph, good[:many] + [item] + good[many:], many, behind)
            self.check(name, graph, (*good[:many], item, item), many, behind)

    def test_values_that_are_not_rows(self):
        for name in CALLS:
            for value in samples.not_rows():
                self.check(name, SQUARE, value, -1)
                self.check(name, Graph(["a"], []), value, -1)

    def test_items_that_are_nearly_pairs(self):
        for name in CALLS:
            for graph in [SQUARE, LACKING]:
                for item in wrong_pairs(graph):
                    self.check_item(name, graph, item)

    def test_other_objects_in_place_of_a_pair(self):
        for name in CALLS:
            for value in samples.not_rows() + samples.strange_rows():
                for item in [value, (value, value), (("a", "b"), value), (value, ("c", "d"))]:
                    self.check_item(name, SQUARE, item)

    def test_a_graph_without_pairs(self):
        for name in CALLS:
            for graph in [Graph(["a"], []), Graph(["a", "b", "c"], samples.all_edges("abc"))]:
                for item in [(("a", "b"), ("a", "c")), (("a", "b"), ("c", "d")), (), None]:
                    self.check(name, graph, [item], 0)

    def test_a_pair_that_equals_an_earlier_one(self):
        for name in CALLS:
            for graph in [SQUARE, LACKING]:
                good = pairs(graph)
                for first, second in itertools.combinations(range(len(good) + 1), 2):
                    record = list(good)
                    record.insert(second, copy.deepcopy(record[first]))
                    self.check(name, graph, record, second)
                    self.check(name, graph, (*record, None), second)

    def test_the_first_wrong_item_counts(self):
        good = pairs(SQUARE)
        for name in CALLS:
            self.check(name, SQUARE, [good[0], None, good[0]], 1)
            self.check(name, SQUARE, [good[0], good[0], None], 1)
            self.check(name, SQUARE, [None, None], 0)

    def test_what_stands_behind_has_no_effect(self):
        for name in CALLS:
            for behind in behinds():
                self.check(name, SQUARE, None, -1, behind)
                self.check(name, SQUARE, pairs(SQUARE) + [None], 3, behind)
                self.check_item(name, SQUARE, 5, behind)

    def test_the_first_record_before_the_second_one(self):
        twice = [pairs(SQUARE)[0]] * 2
        for call in [charge, leading, lambda *rest: judge_leading(*rest, None)]:
            for one, other, at in [(None, [5], -1), ([5], None, 0), (twice, [5], 1), ([], [5], 0), ([], None, -1)]:
                with self.assertRaises(NoRecord) as caught:
                    call(SQUARE, one, other)
                self.assertEqual(caught.exception.at, at)

    def test_the_arguments_do_not_change(self):
        for name in CALLS:
            record = pairs(SQUARE) + [5]
            before = copy.deepcopy(record)
            self.check(name, SQUARE, record, 3, record)
            self.assertEqual(record, before)


class RowsTest(unittest.TestCase):
    def test_lists_and_tuples_are_accepted_and_stay_as_they_are(self):
        for graph in samples.graphs(seeds=1):
            one, other = samples.some_record(graph, "one"), samples.some_record(graph, "other")
            witness, told = samples.some_witness(graph, "rows"), ("witness", samples.some_record(graph, "told"))
            arguments = [one, other, witness, told]
            before = copy.deepcopy(arguments)
            for row in [list, tuple]:
                first, second = row(one), row(other)
                self.assertEqual(is_witness(graph, first), is_witness(graph, one))
                self.assertEqual(charge(graph, first, row(witness)), charge(graph, one, witness))
                self.assertEqual(leading(graph, first, second), leading(graph, one, other))
                self.assertEqual(drawable(graph, first), drawable(graph, one))
                self.assertEqual(judge_leading(graph, first, second, told), judge_leading(graph, one, other, told))
                self.assertEqual((first, second), (row(one), row(other)))
            self.assertEqual(arguments, before)

    def test_the_order_of_a_record_has_no_effect(self):
        for graph in samples.graphs(seeds=1):
            one, other = samples.some_record(graph, "one"), samples.some_record(graph, "other")
            self.assertEqual(leading(graph, one[::-1], sorted(other)), leading(graph, one, other))
            self.assertEqual(is_witness(graph, one[::-1]), is_witness(graph, one))
