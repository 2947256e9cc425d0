import copy
import itertools
import random
import unittest

from crossparity.carries import carried, convex
from crossparity.errors import NoRecord
from crossparity.graphs import Graph, pairs
from crossparity.leads import count, drawable, judge_leading, leading
from crossparity.witnesses import charge, is_witness
from tests import samples

K5 = samples.complete(list("abcde"))
K33 = Graph(list("abcdef"), [tuple(sorted([low, high])) for low in "ace" for high in "bdf"])
SQUARE = samples.SQUARE
ONE_PAIR = [(("a", "c"), ("b", "d"))]


def carries_lead(graph, one, other):
    """Whether carries lead from one record to the other one: no witness tells the two apart."""
    return all(samples.parity(samples.sum_of(one, other), witness) == 0 for witness in samples.witness_basis(graph))


def record_pairs(graph, seed):
    """Two equal records, two that carries lead to each other, and any two."""
    one, other = samples.some_record(graph, seed), samples.some_record(graph, f"{seed} other")
    reached = samples.carried_by_definition(graph, one, samples.some_carries(graph, seed))
    return [(one, one[::-1]), (one, reached), (one, other), ([], one), (one, [])]


def reached_records(graph):
    """All records that are reached from the convex record, listed carry by carry."""
    bits = {pair: 1 << at for at, pair in enumerate(pairs(graph))}
    flips = [samples.flipped_by_definition(graph, carry) for carry in samples.every_carry(graph)]
    numbers = [sum(bits[pair] for pair in flip) for flip in flips]
    start = sum(bits[pair] for pair in convex(graph, graph.vertices))
    seen, waiting = {start}, [start]
    while waiting:
        here = waiting.pop()
        for number in numbers:
            if here ^ number not in seen:
                seen.add(here ^ number)
                waiting.append(here ^ number)
    return [[pair for pair in bits if bits[pair] & number] for number in seen]


def small_graphs(most):
    return [graph for graph in samples.graphs(seeds=3) if len(pairs(graph)) <= most]


class LeadingTest(unittest.TestCase):
    def check(self, graph, one, other):
        """Check a result, and return its word."""
        told = leading(graph, one, other)
        self.assertIs(type(told), tuple)
        word, row = told
        self.assertIs(type(row), list)
        self.assertEqual(row, sorted(set(row)))
        if word == "carries":
            self.assertLessEqual(set(row), set(samples.every_carry(graph)))
            self.assertEqual(carried(graph, one, row), sorted(other))
        else:
            self.assertEqual(word, "witness")
            self.assertTrue(is_witness(graph, row))
            self.assertEqual(charge(graph, one, row) + charge(graph, other, row), 1)
        self.assertEqual(word == "carries", carries_lead(graph, one, other))
        return word

    def test_example(self):
        graph = Graph(["a", "b", "c", "d"], [("a", "b"), ("c", "d")])
        self.assertEqual(leading(graph, [], [])[0], "carries")

    def test_every_shape(self):
        words = []
        for graph in samples.graphs():
            for seed in range(3):
                for one, other in record_pairs(graph, seed):
                    words.append(self.check(graph, one, other))
        self.assertGreater(min(words.count("carries"), words.count("witness")), 50)

    def test_equal_records(self):
        for graph in samples.graphs():
            record = samples.some_record(graph, "equal")
            self.assertEqual(self.check(graph, record, record), "carries")
            self.assertEqual(self.check(graph, record, sorted(record)), "carries")

    def test_records_reached_by_carries(self):
        for graph in samples.graphs():
            for seed in range(3):
                record, carries = samples.some_record(graph, seed), samples.some_carries(graph, seed)
                reached = carried(graph, record, carries)
                self.assertEqual(self.check(graph, record, reached), "carries")
                self.assertEqual(self.check(graph, reached, record), "carries")

    def test_a_single_carry(self):
        for graph in samples.graphs(seeds=1):
            for carry in samples.every_carry(graph)[:30]:
                self.assertEqual(self.check(graph, [], carried(graph, [], [carry])), "carries")

    def test_k5_and_k33_tell_records_apart(self):
        for graph, witness in samples.kuratowski():
            record = samples.some_record(graph, "apart")
            self.assertEqual(self.check(graph, record, samples.sum_of(record, witness[:1])), "witness")
            self.assertEqual(self.check(graph, samples.sum_of(record, witness[3:4]), record), "witness")

    def test_every_two_records_of_graphs_with_few_pairs(self):
        for graph in small_graphs(4):
            every = [record for many in range(5) for record in itertools.combinations(pairs(graph), many)]
            for one, other in itertools.product(every, repeat=2):
                self.check(graph, one, other)

    def test_there_and_back_and_on(self):
        for graph in samples.graphs(seeds=1):
            records = [samples.some_record(graph, seed) for seed in range(4)]
            records += [carried(graph, record, samples.some_carries(graph, "on")) for record in records[:2]]
            lead = {}
            for at, to in itertools.product(range(len(records)), repeat=2):
                lead[at, to] = leading(graph, records[at], records[to])[0] == "carries"
            for at, to, on in itertools.product(range(len(records)), repeat=3):
                self.assertEqual(lead[at, to], lead[to, at])
                if lead[at, to] and lead[to, on]:
                    self.assertTrue(lead[at, on])

    def test_the_result_is_equal_each_time_and_belongs_to_the_caller(self):
        for graph in samples.graphs(seeds=1):
            again = Graph(list(graph.vertices), list(graph.edges)[::-1])
            for one, other in record_pairs(graph, "again"):
                before = copy.deepcopy((one, other))
                told = leading(graph, one, other)
                kept = copy.deepcopy(told)
                told[1].append(None)
                told[1].reverse()
                self.assertEqual(leading(graph, one, other), kept)
                self.assertEqual(leading(again, tuple(one), tuple(other)), kept)
                self.assertEqual((one, other), before)


class DrawableTest(unittest.TestCase):
    def test_example(self):
        self.assertEqual(drawable(K5, []), ("witness", pairs(K5)))

    def test_it_is_leading_from_the_convex_record(self):
        for graph in samples.graphs():
            record = convex(graph, graph.vertices)
            for seed in range(3):
                other = samples.some_record(graph, seed)
                self.assertEqual(drawable(graph, other), leading(graph, record, other))
                self.assertEqual(drawable(graph, tuple(other)), leading(graph, record, other))

    def test_the_carries_start_at_the_order_of_the_vertices(self):
        for order in itertools.permutations("abcd"):
            graph = Graph(order, SQUARE.edges)
            record = convex(graph, graph.vertices)
            word, carries = drawable(graph, [])
            self.assertEqual((word, carried(graph, record, carries)), ("carries", []))
            self.assertEqual(carried(graph, record, drawable(graph, pairs(graph))[1]), pairs(graph))

    def test_every_record_of_a_forest_or_a_cycle(self):
        plain = [samples.some_forest(seed) for seed in range(20)]
        plain += [samples.some_cycle(size, seed) for size in range(3, 9) for seed in range(3)]
        for graph in plain:
            record = convex(graph, graph.vertices)
            for other in [[], pairs(graph)] + [samples.some_record(graph, seed) for seed in range(6)]:
                word, carries = drawable(graph, other)
                self.assertEqual(word, "carries")
                self.assertEqual(carried(graph, record, carries), sorted(other))

    def check_odd(self, graph, record):
        word, row = drawable(graph, record)
        if len(record) % 2 == 1:
            self.assertEqual(word, "carries")
            self.assertEqual(carried(graph, convex(graph, graph.vertices), row), sorted(record))
        else:
            self.assertEqual((word, row), ("witness", pairs(graph)))

    def test_k5_and_k33_have_exactly_the_records_with_an_odd_number_of_pairs(self):
        self.assertEqual([len(pairs(K5)), len(pairs(K33))], [15, 18])
        for graph in [K5, K33]:
            every = pairs(graph)
            for many in [0, 1, 2, len(every) - 1, len(every)]:
                for record in itertools.combinations(every, many):
                    self.check_odd(graph, record)
            for seed in range(300):
                self.check_odd(graph, samples.some_record(graph, seed))

    def test_convex_records_lead_to_each_other(self):
        for graph in samples.graphs():
            orders = [samples.some_order(graph, seed) for seed in range(3)]
            for at in range(len(graph.vertices) - 1):
                order = list(orders[0])
                order[at], order[at + 1] = order[at + 1], order[at]
                orders.append(order)
            for order in orders:
                word, carries = leading(graph, convex(graph, orders[0]), convex(graph, order))
                self.assertEqual(word, "carries")
                self.assertEqual(carried(graph, convex(graph, orders[0]), carries), convex(graph, order))
                self.assertEqual(drawable(graph, convex(graph, order))[0], "carries")

    def test_all_convex_records_of_small_graphs(self):
        for graph in [SQUARE, K5]:
            records = {tuple(convex(graph, order)) for order in itertools.permutations(graph.vertices)}
            for one, other in itertools.product(sorted(records), repeat=2):
                self.assertEqual(leading(graph, one, other)[0], "carries")

    def test_exactly_the_reached_records_of_graphs_with_few_pairs(self):
        for graph in small_graphs(5):
            reached = sorted(reached_records(graph))
            every = [list(record) for many in range(6) for record in itertools.combinations(pairs(graph), many)]
            self.assertEqual(sorted(record for record in every if drawable(graph, record)[0] == "carries"), reached)


class CountTest(unittest.TestCase):
    def check(self, graph, expected):
        self.assertIs(type(count(graph)), int)
        self.assertEqual(count(graph), expected)

    def test_examples(self):
        self.check(SQUARE, 8)
        self.check(K5, 16384)

    def test_k5_and_k33(self):
        self.check(K5, 2 ** 14)
        self.check(K33, 2 ** 17)

    def test_graphs_with_few_pairs(self):
        larger = 0
        for graph in small_graphs(9):
            self.check(graph, len(reached_records(graph)))
            larger += count(graph) > 8
        self.assertGreater(larger, 10)

    def test_graphs_with_few_pairs_of_which_not_all_records_are_reached(self):
        two_cycles = Graph(list("axbycz"), samples.all_edges("abc") + samples.all_edges("xyz"))
        self.check(two_cycles, len(reached_records(two_cycles)))
        self.check(two_cycles, 2 ** 8)
        self.check(K5, len(reached_records(K5)))

    def test_every_shape(self):
        for graph in samples.graphs():
            self.check(graph, 2 ** (len(pairs(graph)) - len(samples.witness_basis(graph))))

    def test_a_forest_or_a_cycle(self):
        for seed in range(40):
            graph = samples.some_forest(seed)
            self.check(graph, 2 ** len(pairs(graph)))
        for size in range(3, 9):
            graph = samples.some_cycle(size, "count")
            self.check(graph, 2 ** (size * (size - 3) // 2))

    def test_graphs_without_pairs(self):
        self.check(Graph(["a"], []), 1)
        self.check(Graph(["a", "b", "c"], samples.all_edges("abc")), 1)
        self.check(Graph(list("abcdefgh"), [("a", name) for name in "bcdefgh"]), 1)

    def test_the_order_has_no_effect(self):
        for size, many in samples.shapes():
            vertices, edges = samples.parts(size, many, "count")
            expected = count(Graph(vertices, edges))
            self.check(Graph(vertices[::-1], edges[::-1]), expected)
            self.check(Graph(sorted(vertices), sorted(edges)), expected)

    def test_an_isolated_vertex_changes_nothing(self):
        for graph in samples.graphs():
            if len(graph.vertices) < 8:
                self.check(Graph(["new", *graph.vertices], graph.edges), count(graph))

    def test_other_names_change_nothing(self):
        for graph in samples.graphs():
            names = random.Random(str(graph.edges)).sample(["zz", "y", "xyx", "w", "vvvvvvvv", "u", "ta", "s"], 8)
            other = dict(zip(graph.vertices, names))
            edges = [tuple(sorted([other[low], other[high]])) for low, high in graph.edges]
            self.check(Graph([other[vertex] for vertex in graph.vertices], edges), count(graph))


def judged_by_definition(graph, one, other, word, row):
    """What the judge says of a word and a row of carries or pairs that may be wrong, but have the right form."""
    if word == "carries":
        return "right" if samples.carried_by_definition(graph, one, row) == sorted(other) else "carries"
    even = all(samples.parity(row, samples.flipped_by_definition(graph, carry)) == 0
               for carry in samples.every_carry(graph))
    return "right" if even and samples.parity(samples.sum_of(one, other), row) == 1 else "witness"


class JudgeLeadingTest(unittest.TestCase):
    def check(self, graph, one, other, told, expected):
        before = copy.copy(told)
        self.assertEqual(judge_leading(graph, one, other, told), expected)
        self.assertEqual(judge_leading(graph, tuple(one), tuple(other), told), expected)
        if type(told) is tuple and len(told) == 2 and isinstance(told[1], list):
            self.assertEqual(before[1], told[1])

    def cases(self):
        for graph in samples.graphs(seeds=1):
            for one, other in record_pairs(graph, "judge"):
                yield graph, one, other, leading(graph, one, other)

    def test_examples(self):
        self.assertEqual(judge_leading(SQUARE, [], ONE_PAIR, ("carries", [(("b", "d"), "c")])), "right")
        self.assertEqual(judge_leading(SQUARE, [], ONE_PAIR, ("carries", [])), "carries")

    def test_results_of_leading_in_any_order(self):
        words = []
        for graph, one, other, told in self.cases():
            word, row = told
            words.append(word)
            shuffled = random.Random(0).sample(row, len(row))
            for changed in [row, tuple(row), shuffled, tuple(shuffled), row[::-1]]:
                self.check(graph, one, other, (word, changed), "right")
        self.assertGreater(min(words.count("carries"), words.count("witness")), 30)

    def test_the_way_back(self):
        for graph, one, other, told in self.cases():
            self.check(graph, other, one, told, "right")

    def test_a_carry_toggled(self):
        for graph, one, other, (word, row) in self.cases():
            if word == "carries":
                for carry in samples.every_carry(graph)[::7]:
                    toggled = sorted(set(row) ^ {carry})
                    idle = samples.flipped_by_definition(graph, carry) == []
                    self.check(graph, one, other, (word, toggled), "right" if idle else "carries")

    def test_all_carries_of_one_edge_toggled(self):
        for graph, one, other, (word, row) in self.cases():
            if word == "carries":
                for edge in graph.edges[::3]:
                    over = {(edge, vertex) for vertex in graph.vertices if vertex not in edge}
                    self.check(graph, one, other, (word, sorted(set(row) ^ over)), "right")

    def test_a_carry_twice_or_unknown(self):
        for graph, one, other, (word, row) in self.cases():
            if word == "carries":
                for at, carry in enumerate(row[:3]):
                    edge, vertex = carry
                    for wrong in [carry, (edge, edge[0]), (edge[::-1], vertex), (list(edge), vertex), [edge, vertex],
                                  (edge, "new"), (("new", "newer"), vertex), (vertex, edge), None, []]:
                        self.check(graph, one, other, (word, row + [wrong]), "form")
                        self.check(graph, one, other, (word, (*row[:at], wrong, *row[at:])), "form")

    def test_a_pair_of_the_witness_toggled(self):
        many = 0
        for graph, one, other, (word, row) in self.cases():
            if word == "witness":
                for pair in pairs(graph)[::5]:
                    self.check(graph, one, other, (word, samples.sum_of(row, [pair])), "witness")
                    many += 1
        self.assertGreater(many, 100)

    def test_a_witness_that_is_no_record(self):
        for graph, one, other, (word, row) in self.cases():
            if word == "witness":
                first, second = row[0]
                wrongs = [row[0], (second, first), [first, second], (first, first), first, None, (list(first), second)]
                for wrong in wrongs:
                    self.check(graph, one, other, (word, row + [wrong]), "form")
                    self.check(graph, one, other, (word, (*row, wrong)), "form")

    def test_any_witness_and_any_carries(self):
        seen = []
        for graph in samples.graphs(seeds=1):
            for one, other in record_pairs(graph, "any"):
                rows = [("witness", samples.some_witness(graph, seed)) for seed in range(2)]
                rows += [("witness", []), ("witness", samples.some_record(graph, "any")), ("carries", [])]
                rows += [("carries", sorted(set(samples.some_carries(graph, "any"))))]
                for word, row in rows:
                    expected = judged_by_definition(graph, one, other, word, row)
                    self.check(graph, one, other, (word, row), expected)
                    seen.append((word, expected))
        for word in ["carries", "witness"]:
            self.assertGreater(min(seen.count((word, "right")), seen.count((word, word))), 10)

    def test_the_other_word(self):
        for graph, one, other, (word, row) in self.cases():
            if row != []:
                self.check(graph, one, other, ("witness" if word == "carries" else "carries", row), "form")
        self.check(SQUARE, [], [], ("witness", []), "witness")
        self.check(K5, [], pairs(K5)[:1], ("carries", []), "carries")

    def test_an_unknown_word(self):
        words = ["", "right", "carry", "Carries", "carries ", "witnesses", b"carries", ["witness"], ("carries",)]
        for word in words + samples.not_rows() + samples.strange_rows():
            self.check(SQUARE, [], [], (word, []), "form")
            self.check(K5, [], pairs(K5)[:1], (word, pairs(K5)), "form")

    def test_another_form(self):
        for word, row in [leading(SQUARE, [], ONE_PAIR), leading(K5, [], pairs(K5)[:1])]:
            graph = SQUARE if word == "carries" else K5
            other = pairs(K5)[:1] if graph == K5 else ONE_PAIR
            self.check(graph, [], other, (word, row), "right")
            for told in [[word, row], (word,), (row,), (word, row, row), (word, row, None), (row, word), word, row, ()]:
                self.check(graph, [], other, told, "form")
            for told in [(word, None), (word, dict.fromkeys(row)), (word, set(row)), (word, iter(row)), {word: row}]:
                self.assertEqual(judge_leading(graph, [], other, told), "form")

    def test_any_object_as_the_result(self):
        foreign = samples.not_rows() + samples.strange_rows()
        for value in foreign:
            self.assertEqual(judge_leading(SQUARE, [], [], value), "form")
            for word in ["carries", "witness"]:
                self.assertEqual(judge_leading(SQUARE, [], [], (word, [value])), "form")
                self.assertEqual(judge_leading(SQUARE, [], [], (word, (value, value))), "form")
                self.assertEqual(judge_leading(SQUARE, [], [], (value, word)), "form")
        for value in samples.not_rows():
            for word in ["carries", "witness"]:
                self.assertEqual(judge_leading(SQUARE, [], [], (word, value)), "form")

    def test_the_records_are_checked_before_the_result(self):
        for told in [None, ("carries", []), ("witness", None), samples.Touchy()]:
            for one, other, at in [(None, [5], -1), ([5], None, 0), ([], [5], 0), (ONE_PAIR, ONE_PAIR * 2, 1)]:
                with self.assertRaises(NoRecord) as caught:
                    judge_leading(SQUARE, one, other, told)
                self.assertEqual(caught.exception.at, at)
