"""Point 18, and point 2 as far as it speaks of graphs: leafsay/graphs.py."""

import copy
import itertools
import random
import unittest

from helper import Case, hanging
from leafsay.errors import LeafError, Ring
from leafsay.graphs import order_of, reached, ring_in, way_in

# Whole numbers of any size, texts, tuples of these and of such, of several sorts in one graph.
NODES = (
    0, 1, -1, 10 ** 5000, "", "a", "1", (), (0,), ("a",), ((),), (0, "a"), (1, "x"), (((), 2), "b"), (1,), ((1,), "x"),
)
PLAIN = (
    {},
    {0: []},
    {"a": [], "b": [], "c": []},
    {"a": ["b"], "b": ["c"], "c": []},
    {"c": [], "b": ["c"], "a": ["b"]},
    {0: [1, 2], 1: [3], 2: [3], 3: []},
    {0: [1, 1, 2, 1], 1: [2, 2], 2: []},
    {(): [(0,), ((),)], (0,): [], ((),): [(0,)]},
    {1: ["1"], "1": [(1,)], (1,): [("1",)], ("1",): [()], (): []},
    {((), "a"): [((1,), "b"), ((1, 2), "c")], ((1,), "b"): [], ((1, 2), "c"): [((1,), "b")]},
)
WITH_RINGS = (
    {0: [0]},
    {(): [()]},
    {"": [""], "a": []},
    {0: [0, 0]},
    {0: [1], 1: [1], 2: []},
    {0: [1], 1: [0]},
    {"a": ["b"], "b": ["c"], "c": ["a"]},
    {"a": ["b"], "b": ["c"], "c": ["d", "b"], "d": []},
    {0: [1], 1: [2], 2: [1, 3], 3: [4], 4: [3], 5: [0]},
    {0: [1], 1: [0], "x": ["y"], "y": ["x"]},
    {0: [], 1: [0, 2], 2: [0, 3], 3: [0, 1], 4: [0]},
    {1: ["1"], "1": [(1,)], (1,): [("1",)], ("1",): [()], (): [1]},
    {((), "a"): [((1,), "b")], ((1,), "b"): [((), "a")]},
)


def small_graphs():
    for size in range(1, 4):
        pairs = list(itertools.product(range(size), repeat=2))
        for chosen in itertools.product((False, True), repeat=len(pairs)):
            edges = list(itertools.compress(pairs, chosen))
            yield {node: [other for one, other in edges if one == node] for node in range(size)}


def some_graphs():
    source = random.Random(18)
    for turn in range(800):
        nodes = source.sample(NODES, source.randint(1, len(NODES)))
        graph = {node: [] for node in nodes}
        for edge in range(source.randint(0, 2 * len(nodes))):
            graph[source.choice(nodes)].append(source.choice(nodes))
        yield graph


def some_graphs_without_rings():
    source = random.Random(19)
    for turn in range(400):
        nodes = source.sample(NODES, source.randint(2, len(NODES)))
        edges = [sorted(source.sample(range(len(nodes)), 2)) for edge in range(source.randint(0, 40))]
        keys = source.sample(nodes, len(nodes))
        yield {key: [nodes[other] for one, other in edges if nodes[one] == key] for key in keys}


def chain(length, backwards, last):
    keys = range(length - 1, -1, -1) if backwards else range(length)
    return {key: [key + 1] if key < length - 1 else last for key in keys}


class Held(Case):
    def way_held(self, graph, one, other, way):
        self.assertIs(type(way), list)
        self.assertGreaterEqual(len(way), 2)
        self.assertEqual((way[0], way[-1]), (one, other))
        for node, lower in zip(way, way[1:]):
            self.assertIn(lower, graph[node])
        self.assertEqual(len(set(way[1:])), len(way) - 1)
        self.assertNotIn(one, way[1:-1])

    def without_ring(self, graph):
        self.assertIsNone(ring_in(graph))
        self.order_held(graph, order_of(graph))

    def with_ring(self, graph):
        self.ring_held(graph, ring_in(graph))
        with self.assertRaises(LeafError) as taken:
            order_of(graph)
        self.assertIs(type(taken.exception), Ring)
        self.ring_held(graph, taken.exception.ring)

    def all_held(self, graph):
        right = hanging(graph)
        if any(node in right[node] for node in graph):
            self.with_ring(graph)
        else:
            self.without_ring(graph)
        for one in graph:
            answer = reached(graph, one)
            self.assertIs(type(answer), list)
            self.assertEqual(len(answer), len(right[one]))
            self.assertEqual(set(answer), right[one])
            for other in graph:
                way = way_in(graph, one, other)
                if other in right[one]:
                    self.way_held(graph, one, other, way)
                else:
                    self.assertIsNone(way)


class Small(Held):
    def test_no_nodes(self):
        self.assertIsNone(ring_in({}))
        self.assertEqual(order_of({}), [])

    def test_without_rings(self):
        for graph in PLAIN:
            self.without_ring(graph)
            self.all_held(graph)

    def test_with_rings(self):
        for graph in WITH_RINGS:
            self.with_ring(graph)
            self.all_held(graph)

    def test_node_that_hangs_on_itself(self):
        for node in NODES:
            graph = {node: [node]}
            self.assertEqual(ring_in(graph), [node])
            self.assertEqual(reached(graph, node), [node])
            self.assertEqual(way_in(graph, node, node), [node, node])

    def test_one_node_alone(self):
        for node in NODES:
            graph = {node: []}
            self.assertEqual(order_of(graph), [node])
            self.assertEqual(reached(graph, node), [])
            self.assertIsNone(way_in(graph, node, node))

    def test_one_answer_alone(self):
        graph = {"a": ["b"], "b": ["c"], "c": []}
        self.assertEqual(order_of(graph), ["c", "b", "a"])
        self.assertEqual(way_in(graph, "a", "c"), ["a", "b", "c"])
        self.assertEqual(way_in(graph, "b", "c"), ["b", "c"])
        self.assertIsNone(way_in(graph, "c", "a"))
        self.assertEqual(way_in({0: [1], 1: [0]}, 0, 0), [0, 1, 0])

    def test_told_twice(self):
        graph = {0: [1, 1], 1: [2, 2, 2], 2: []}
        self.assertEqual(order_of(graph), [2, 1, 0])
        self.assertEqual(sorted(reached(graph, 0)), [1, 2])
        self.assertEqual(way_in(graph, 0, 2), [0, 1, 2])

    def test_every_graph_of_up_to_three_nodes(self):
        for graph in small_graphs():
            self.all_held(graph)

    def test_refusals_class_and_field(self):
        for graph in WITH_RINGS:
            self.refused(Ring, order_of, graph)
        with self.assertRaises(Ring) as taken:
            order_of({"a": [], "b": ["a", "b"]})
        self.assertEqual(taken.exception.ring, ["b"])


class ByChance(Held):
    def test_graphs_of_several_sorts_of_nodes(self):
        for graph in some_graphs():
            self.all_held(graph)

    def test_graphs_without_rings(self):
        for graph in some_graphs_without_rings():
            self.without_ring(graph)
            self.all_held(graph)


class Great(Held):
    def test_chains(self):
        for backwards in (False, True):
            graph = chain(400, backwards, [])
            self.without_ring(graph)
            self.assertEqual(order_of(graph), list(range(399, -1, -1)))
            self.assertEqual(sorted(reached(graph, 0)), list(range(1, 400)))
            self.assertEqual(reached(graph, 399), [])
            self.assertEqual(way_in(graph, 0, 399), list(range(400)))
            self.assertEqual(way_in(graph, 200, 399), list(range(200, 400)))
            self.assertIsNone(way_in(graph, 399, 0))
            self.assertIsNone(way_in(graph, 0, 0))

    def test_chain_of_tuples_in_tuples(self):
        nodes = [()]
        while len(nodes) < 100:
            nodes.append((nodes[-1], len(nodes)))
        graph = {node: [lower] for lower, node in zip(nodes, nodes[1:])}
        graph[()] = []
        self.assertEqual(order_of(graph), nodes)

    def test_long_rings(self):
        for backwards in (False, True):
            graph = chain(400, backwards, [0])
            self.with_ring(graph)
            self.assertEqual(len(ring_in(graph)), 400)
            self.assertEqual(way_in(graph, 7, 7), list(range(7, 400)) + list(range(8)))
            self.assertEqual(sorted(reached(graph, 7)), list(range(400)))

    def test_ring_at_the_end_of_a_chain(self):
        for backwards in (False, True):
            for last in ([399], [398], [390, 399], [200]):
                graph = chain(400, backwards, last)
                self.with_ring(graph)
                self.assertIsNone(way_in(graph, 0, 0))
                self.assertEqual(sorted(reached(graph, 0)), list(range(1, 400)))

    def test_every_node_on_all_behind_it(self):
        graph = {node: list(range(node + 1, 400)) for node in range(400)}
        self.without_ring(graph)
        self.way_held(graph, 0, 399, way_in(graph, 0, 399))
        graph[399] = [0]
        self.with_ring(graph)

    def test_rings_apart(self):
        graph = {node: [node // 4 * 4 + (node + 1) % 4] for node in range(400)}
        self.with_ring(graph)
        self.assertEqual(len(ring_in(graph)), 4)
        self.assertEqual(sorted(reached(graph, 41)), [40, 41, 42, 43])
        self.assertIsNone(way_in(graph, 41, 44))
        self.assertEqual(way_in(graph, 41, 41), [41, 42, 43, 40, 41])

    def test_many_ways(self):
        graph = {(level, side): [(level + 1, 0), (level + 1, 1)] for level in range(199) for side in (0, 1)}
        graph.update({(199, 0): [], (199, 1): []})
        self.without_ring(graph)
        self.assertEqual(len(reached(graph, (0, 0))), 398)
        self.way_held(graph, (0, 0), (199, 1), way_in(graph, (0, 0), (199, 1)))
        self.assertIsNone(way_in(graph, (0, 0), (0, 1)))


class Kept(Held):
    def test_what_is_handed_in_is_left(self):
        for graph in PLAIN[1:] + WITH_RINGS:
            before = copy.deepcopy(graph)
            self.all_held(graph)
            self.assertEqual(graph, before)
            self.assertEqual(list(graph), list(before))

    def test_told_lists_may_be_altered(self):
        for graph in PLAIN[1:] + WITH_RINGS:
            for one in graph:
                for other in graph:
                    for function, handed in ((ring_in, ()), (reached, (one,)), (way_in, (one, other))):
                        answer = function(graph, *handed)
                        if answer is not None:
                            answer.clear()
                            answer.append("altered")
            self.all_held(graph)
        for graph in PLAIN[1:]:
            order_of(graph).clear()
            self.all_held(graph)

    def test_field_may_be_altered(self):
        for graph in WITH_RINGS:
            with self.assertRaises(Ring) as taken:
                order_of(graph)
            taken.exception.ring.clear()
            self.all_held(graph)

    def test_a_graph_altered_between_two_calls(self):
        graph = {0: [1], 1: []}
        self.without_ring(graph)
        graph[1].append(0)
        self.with_ring(graph)
        graph[0].clear()
        self.without_ring(graph)
        self.assertEqual(reached(graph, 0), [])


if __name__ == "__main__":
    unittest.main()
