import itertools
import random
import unittest

from crossparity.carries import carried, convex
from crossparity.errors import NoRecord, NoWitness
from crossparity.graphs import Graph, pairs
from crossparity.witnesses import charge, is_witness
from tests import samples

K5 = samples.complete(list("abcde"))
SQUARE = samples.SQUARE


def is_witness_by_definition(graph, record):
    for edge, vertex in samples.every_carry(graph):
        touched = [pair for pair in record if edge in pair and any(vertex in other for other in pair)]
        if len(touched) % 2 == 1:
            return False
    return True


class IsWitnessTest(unittest.TestCase):
    def check(self, graph, record):
        expected = is_witness_by_definition(graph, record)
        self.assertIs(is_witness(graph, list(record)), expected)
        self.assertIs(is_witness(graph, tuple(record)), expected)
        return expected

    def test_examples(self):
        self.assertIs(is_witness(K5, pairs(K5)), True)
        self.assertIs(is_witness(SQUARE, pairs(SQUARE)), False)

    def test_no_pairs_and_all_pairs_and_any_pairs(self):
        for graph in samples.graphs():
            self.assertTrue(self.check(graph, []))
            self.check(graph, pairs(graph))
            for seed in range(3):
                self.check(graph, samples.some_record(graph, seed))

    def test_witnesses_and_one_pair_more_or_fewer(self):
        many = 0
        for graph in samples.graphs():
            witness = samples.some_witness(graph, "is_witness")
            self.assertTrue(self.check(graph, witness))
            many += witness != []
            for pair in samples.some_record(graph, "one")[:8] + witness[:4]:
                self.assertFalse(self.check(graph, samples.sum_of(witness, [pair])))
        self.assertGreater(many, 20)

    def test_every_record_of_graphs_with_few_pairs(self):
        for graph in samples.graphs():
            every = pairs(graph)
            if len(every) <= 6:
                for many in range(len(every) + 1):
                    for record in itertools.combinations(every, many):
                        self.check(graph, record)

    def test_all_pairs_of_two_cycles(self):
        edges = samples.all_edges("abc") + samples.all_edges("xyz")
        graph = Graph(list("axbycz"), edges)
        self.assertIs(is_witness(graph, pairs(graph)), True)
        self.assertIs(is_witness(graph, pairs(graph)[1:]), False)

    def test_k5_and_k33_also_inside_a_larger_graph(self):
        for graph, witness in samples.kuratowski():
            shuffled = random.Random(0).sample(witness, len(witness))
            self.assertIs(is_witness(graph, shuffled), True)
            self.assertTrue(is_witness_by_definition(graph, witness))
            self.assertIs(is_witness(graph, shuffled[1:]), False)


class ChargeTest(unittest.TestCase):
    def check(self, graph, record, witness):
        expected = samples.parity(record, witness)
        for row, other in itertools.product([list, tuple], repeat=2):
            found = charge(graph, row(record), other(witness))
            self.assertIs(type(found), int)
            self.assertEqual(found, expected)
        return expected

    def check_none(self, graph, record, witness):
        with self.assertRaises(NoWitness):
            charge(graph, record, witness)

    def test_examples(self):
        self.assertEqual(charge(K5, convex(K5, K5.vertices), pairs(K5)), 1)
        self.check_none(SQUARE, [], pairs(SQUARE))

    def test_every_shape(self):
        seen = []
        for graph in samples.graphs():
            for seed in range(3):
                witness = samples.some_witness(graph, seed)
                seen.append(self.check(graph, samples.some_record(graph, seed), witness))
                self.check(graph, [], witness)
                self.check(graph, pairs(graph), witness)
                self.check(graph, witness, witness)
                self.check(graph, pairs(graph), [])
        self.assertGreater(min(seen.count(0), seen.count(1)), 20)

    def test_k5_and_k33_have_charge_1_in_the_convex_record(self):
        for graph, witness in samples.kuratowski():
            for seed in range(3):
                self.assertEqual(charge(graph, convex(graph, samples.some_order(graph, seed)), witness), 1)

    def test_records_that_are_not_witnesses(self):
        for graph in samples.graphs(seeds=1):
            record, witness = samples.some_record(graph, "record"), samples.some_witness(graph, "witness")
            for pair in samples.some_record(graph, "one")[:8] + witness[:4]:
                self.check_none(graph, record, samples.sum_of(witness, [pair]))
                self.check_none(graph, tuple(record), (pair,))

    def test_no_record_comes_before_no_witness(self):
        wrong = pairs(SQUARE)
        for record, witness, at in [
            (None, wrong, -1), ([5], wrong, 0), ([wrong[0]] * 2, wrong, 1), ([5], None, 0), (None, [5], -1),
            (wrong, None, -1), (wrong, wrong + [5], 3), (wrong, [wrong[0]] * 2, 1), ([], [wrong[0], 5], 1),
        ]:
            with self.assertRaises(NoRecord) as caught:
                charge(SQUARE, record, witness)
            self.assertEqual(caught.exception.at, at)

    def test_carries_do_not_change_it(self):
        for graph in samples.graphs():
            record, witness = samples.some_record(graph, "carried"), samples.some_witness(graph, "carried")
            expected = charge(graph, record, witness)
            for carry in samples.every_carry(graph)[:20]:
                self.assertEqual(charge(graph, carried(graph, record, [carry]), witness), expected)
            for seed in range(3):
                moved = carried(graph, record, samples.some_carries(graph, seed))
                self.assertEqual(charge(graph, moved, witness), expected)

    def test_the_sum_of_two_witnesses(self):
        for graph in samples.graphs():
            for seed in range(3):
                one, other = samples.some_witness(graph, seed), samples.some_witness(graph, seed + 10)
                record, both = samples.some_record(graph, seed), samples.sum_of(one, other)
                self.assertTrue(is_witness(graph, both))
                added = charge(graph, record, one) + charge(graph, record, other)
                self.assertEqual(charge(graph, record, both), added % 2)

    def test_all_drawings_have_the_same_charge(self):
        for graph in samples.graphs(seeds=1):
            witness = samples.some_witness(graph, "drawings")
            charges = {charge(graph, convex(graph, samples.some_order(graph, seed)), witness) for seed in range(4)}
            self.assertEqual(len(charges), 1)
