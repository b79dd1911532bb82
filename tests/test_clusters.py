"""Part 8, points 8.6 to 8.10: joins within a set of edges, and growing clusters."""

import itertools
import random
import time
import unittest

from bastion.clusters import cluster_join, clusters, full_edges, grow, join_within
from bastion.errors import NoJoin
from bastion.graph import life_graph
from tests import model

CHAIN = (3, ((0, 1, 0), (1, 2, 0), (2, 3, 1)))

# A part with the boundary, two parts without it, and a node alone; the boundary is 9.
PARTS = (9, ((0, 1, 0), (1, 2, 1), (2, 9, 0), (3, 4, 0), (3, 5, 0), (4, 5, 0), (6, 7, 0), (6, 7, 1)))


def fired_lists(nodes):
    return [list(some) for count in range(nodes + 1) for some in itertools.combinations(range(nodes), count)]


def expected_clusters(graph, full):
    """Sets of nodes, by joining any two with an edge between them."""
    nodes, edges = graph
    groups = [{node} for node in range(nodes)]
    for k in full:
        a, b, _ = edges[k]
        if b < nodes:
            met = [group for group in groups if a in group or b in group]
            groups = [group for group in groups if group not in met] + [set().union(*met)]
    return sorted(sorted(group) for group in groups)


def is_settled(graph, growth, fired, cluster):
    opened = [edge[0] for edge, grown in zip(graph[1], growth) if grown == 2 and edge[1] == graph[0]]
    return len(set(cluster) & set(fired)) % 2 == 0 or any(node in cluster for node in opened)


def grown_steps(graph, fired):
    """Point 8.7, with everything looked up again at each step; None if no edge leaves a cluster that should grow."""
    growth = [0] * len(graph[1])
    cuts = []
    while True:
        full = [k for k, grown in enumerate(growth) if grown == 2]
        groups = [c for c in expected_clusters(graph, full) if not is_settled(graph, growth, fired, c)]
        if not groups:
            return (growth, cuts)
        mask = sum(2 ** node for node in min(groups))
        leaving = [k for k, edge in enumerate(graph[1]) if model.leaves(edge, mask)]
        if not leaving:
            return None
        for k in leaving:
            growth[k] += 1
        cuts.append(mask)


class JoinWithinTest(unittest.TestCase):

    def check(self, graph, allowed, fired):
        given = list(allowed), list(fired)
        edges = join_within(graph, allowed, fired)
        self.assertEqual((allowed, fired), given)
        self.assertIs(type(edges), list)
        self.assertEqual(edges, sorted(set(edges)))
        self.assertTrue(set(edges) <= set(allowed))
        self.assertEqual(model.odd_ends(graph, edges), fired)

    def test_by_hand(self):
        self.assertEqual(join_within(CHAIN, [0, 1], [0, 2]), [0, 1])
        self.assertEqual(join_within(CHAIN, [0, 1, 2], [0]), [0, 1, 2])
        self.assertEqual(join_within(CHAIN, [0, 2], [0, 1, 2]), [0, 2])
        self.assertEqual(join_within(CHAIN, [2], [2]), [2])
        self.assertEqual(join_within(PARTS, [3, 6], [3, 4, 6, 7]), [3, 6])
        self.assertEqual(join_within(PARTS, [4, 5, 7], [3, 4, 6, 7]), [4, 5, 7])

    def test_no_fired_nodes(self):
        for graph in (CHAIN, PARTS, (0, ()), (3, ())):
            every = list(range(len(graph[1])))
            self.check(graph, every, [])
            self.assertEqual(join_within(graph, [], []), [])
        self.assertEqual(join_within(CHAIN, [0, 1, 2], []), [])

    def test_no_join(self):
        wrong = [([], [0]), ([0, 1], [0]), ([0, 2], [0]), ([1, 2], [0, 1]), ([0], [0, 1, 2]), ([1], [0, 2])]
        for allowed, fired in wrong:
            with self.assertRaises(NoJoin):
                join_within(CHAIN, allowed, fired)
        every = list(range(len(PARTS[1])))
        for fired in ([8], [3], [3, 4, 5], [0, 3], [3, 6], [0, 8], [3, 4, 6]):
            with self.assertRaises(NoJoin):
                join_within(PARTS, every, fired)
        with self.assertRaises(NoJoin):
            join_within((2, ()), [], [0, 1])

    def test_small_graphs_against_all_sets_of_edges(self):
        source = random.Random(16)
        for graph in model.small_graphs(17, 80, 5, 8):
            every = list(range(len(graph[1])))
            for allowed in (every, sorted(source.sample(every, len(every) // 2)), []):
                joined = [model.odd_ends(graph, some) for some in model.edge_sets(graph) if set(some) <= set(allowed)]
                for fired in fired_lists(graph[0]):
                    if fired in joined:
                        self.check(graph, allowed, fired)
                    else:
                        with self.assertRaises(NoJoin):
                            join_within(graph, allowed, fired)

    def test_hundreds_of_allowed_edges(self):
        source = random.Random(18)
        for letter in "XZ":
            graph = life_graph(9, 9, 10, letter)
            every = list(range(len(graph[1])))
            start = time.monotonic()
            for count in (1, 2, 50, 200, 440):
                self.check(graph, every, sorted(source.sample(range(440), count)))
            self.assertLess(time.monotonic() - start, 10)
            most = sorted(source.sample(every, 1500))
            fired = model.odd_ends(graph, source.sample(most, 700))
            self.check(graph, most, fired)

    def test_a_long_chain(self):
        graph = (3000, tuple((k, k + 1, 0) for k in range(3000)))
        self.assertEqual(join_within(graph, list(range(2999)), [0, 2999]), list(range(2999)))
        self.assertEqual(join_within(graph, list(range(3000)), [7]), list(range(7, 3000)))


class GrowTest(unittest.TestCase):

    def check(self, graph, fired):
        given = list(fired)
        wanted = grown_steps(graph, fired)
        if wanted is None:
            for function in (grow, cluster_join):
                with self.assertRaises(NoJoin):
                    function(graph, given)
            return
        answer = grow(graph, given)
        self.assertIs(type(answer), tuple)
        self.assertEqual([type(part) for part in answer], [list, list])
        self.assertEqual(answer, wanted)
        self.check_cuts(graph, fired, answer[1])
        self.check_join(graph, fired, answer[0])
        self.assertEqual(given, fired)

    def check_cuts(self, graph, fired, cuts):
        for mask in cuts:
            self.assertEqual(len(set(model.members(mask)) & set(fired)) % 2, 1)
        for edge in graph[1]:
            self.assertLessEqual(sum(model.leaves(edge, mask) for mask in cuts), 2)

    def check_join(self, graph, fired, growth):
        full = full_edges(growth)
        edges = cluster_join(graph, fired)
        self.assertIs(type(edges), list)
        self.assertEqual(edges, sorted(set(edges)))
        self.assertTrue(set(edges) <= set(full))
        self.assertEqual(model.odd_ends(graph, edges), fired)
        self.assertEqual(edges, join_within(graph, full, fired))

    def test_examples(self):
        self.assertEqual(grow(CHAIN, [0]), ([2, 2, 2], [1, 1, 3, 3, 7, 7]))
        with self.assertRaises(NoJoin):
            grow((2, ((0, 1, 0),)), [0])
        with self.assertRaises(NoJoin):
            cluster_join((2, ((0, 1, 0),)), [0])

    def test_by_hand(self):
        # The cluster with the least node grows until it is settled, and the other one needs no step.
        self.assertEqual(grow(CHAIN, [0, 1]), ([2, 0, 0], [1, 1]))
        self.assertEqual(grow(CHAIN, [0, 2]), ([2, 2, 0], [1, 1, 3, 3]))
        # Two clusters with one fired node each become one, which gets the least node of both.
        self.assertEqual(grow(CHAIN, [1]), ([2, 2, 2], [2, 2, 7, 7]))
        self.assertEqual(grow(CHAIN, [1, 2]), ([2, 2, 0], [2, 2]))
        self.assertEqual(grow(CHAIN, [0, 1, 2]), ([2, 2, 2], [1, 1, 4, 4]))
        self.assertEqual(grow(CHAIN, []), ([0, 0, 0], []))
        self.assertEqual(grow((0, ()), []), ([], []))

    def test_a_cluster_at_the_boundary_is_settled(self):
        graph = (2, ((0, 1, 0), (0, 2, 0)))
        self.assertEqual(grow(graph, [0]), ([2, 2], [1, 1]))
        self.assertEqual(grow(graph, [1]), ([2, 2], [2, 2, 3, 3]))
        self.assertEqual(cluster_join(graph, [0]), [1])
        self.assertEqual(cluster_join(graph, [1]), [0, 1])

    def test_the_boundary_does_not_connect_clusters(self):
        graph = (2, ((0, 2, 0), (1, 2, 1)))
        self.assertEqual(grow(graph, [0, 1]), ([2, 2], [1, 1, 2, 2]))
        self.assertEqual(cluster_join(graph, [0, 1]), [0, 1])

    def test_no_edge_leaves_a_cluster_that_should_grow(self):
        for fired in ([8], [3], [3, 4, 5], [6], [0, 6], [0, 1, 2, 8]):
            for function in (grow, cluster_join):
                with self.assertRaises(NoJoin):
                    function(PARTS, fired)

    def test_small_graphs_step_by_step(self):
        for graph in model.small_graphs(19, 150, 6, 11) + [PARTS]:
            for fired in fired_lists(graph[0]):
                self.check(graph, fired)

    def test_lives_step_by_step(self):
        source = random.Random(20)
        for size in ((2, 2, 2), (3, 3, 2), (4, 3, 2), (3, 5, 1)):
            for letter in "XZ":
                graph = life_graph(*size, letter)
                for count in (1, 2, 4, 7, graph[0]):
                    self.check(graph, sorted(source.sample(range(graph[0]), min(count, graph[0]))))

    def test_the_largest_life(self):
        source = random.Random(21)
        graph = life_graph(9, 9, 10, "X")
        for count in (20, 100, 440):
            fired = sorted(source.sample(range(440), count))
            start = time.monotonic()
            growth, cuts = grow(graph, fired)
            self.assertLess(time.monotonic() - start, 10)
            self.check_join(graph, fired, growth)
        self.check_cuts(graph, fired, cuts)

    def test_the_lists_are_new(self):
        growth, cuts = grow(CHAIN, [0])
        growth.clear()
        cuts.clear()
        self.assertEqual(grow(CHAIN, [0]), ([2, 2, 2], [1, 1, 3, 3, 7, 7]))


class FullEdgesTest(unittest.TestCase):

    def test_full_edges(self):
        self.assertEqual(full_edges([]), [])
        self.assertEqual(full_edges([0, 1, 0, 1]), [])
        self.assertEqual(full_edges([2, 1, 0, 2, 2]), [0, 3, 4])
        growth = [2, 0, 2]
        full_edges(growth).clear()
        self.assertEqual(growth, [2, 0, 2])


class ClustersTest(unittest.TestCase):

    def test_by_hand(self):
        self.assertEqual(clusters(CHAIN, []), [[0], [1], [2]])
        self.assertEqual(clusters(CHAIN, [0]), [[0, 1], [2]])
        self.assertEqual(clusters(CHAIN, [1, 2]), [[0], [1, 2]])
        self.assertEqual(clusters(CHAIN, [2]), [[0], [1], [2]])
        self.assertEqual(clusters((0, ()), []), [])

    def test_the_order(self):
        graph = (6, ((0, 5, 0), (1, 4, 0), (2, 3, 0), (2, 4, 1), (3, 4, 0)))
        self.assertEqual(clusters(graph, [0, 1]), [[0, 5], [1, 4], [2], [3]])
        self.assertEqual(clusters(graph, [0, 2]), [[0, 5], [1], [2, 3], [4]])
        self.assertEqual(clusters(graph, [0, 1, 3]), [[0, 5], [1, 2, 4], [3]])
        self.assertEqual(clusters(graph, [1, 2, 4]), [[0], [1, 2, 3, 4], [5]])

    def test_the_boundary_does_not_connect_nodes(self):
        graph = (3, ((0, 3, 0), (1, 2, 0), (1, 3, 0), (2, 3, 1)))
        self.assertEqual(clusters(graph, [0, 2]), [[0], [1], [2]])
        self.assertEqual(clusters(graph, [0, 1, 2, 3]), [[0], [1, 2]])

    def test_small_graphs(self):
        for graph in model.small_graphs(22, 60, 7, 8):
            for edges in model.edge_sets(graph):
                given = list(edges)
                found = clusters(graph, edges)
                self.assertEqual(edges, given)
                self.assertEqual((type(found), {type(one) for one in found} - {list}), (list, set()))
                self.assertEqual(found, expected_clusters(graph, edges))


class ClusterFlipTest(unittest.TestCase):
    """Point 8.10: the flip is that of a join with fewer than half as many edges as the fault distance."""

    def check(self, graph, edges):
        fired = model.odd_ends(graph, edges)
        self.assertEqual(model.flip_of(graph, cluster_join(graph, fired)), model.flip_of(graph, edges))

    def test_all_single_edges(self):
        for size in ((3, 3, 1), (3, 3, 3), (3, 5, 2), (5, 3, 2), (4, 4, 2), (5, 5, 1)):
            for letter in "XZ":
                graph = life_graph(*size, letter)
                for k in range(len(graph[1])):
                    self.check(graph, [k])

    def test_all_pairs_of_edges(self):
        for letter in "XZ":
            graph = life_graph(5, 5, 1, letter)
            for edges in itertools.combinations(range(len(graph[1])), 2):
                self.check(graph, list(edges))

    def test_some_pairs_of_edges(self):
        source = random.Random(23)
        for size, letter in (((5, 5, 3), "X"), ((5, 5, 3), "Z"), ((5, 2, 4), "X"), ((2, 5, 4), "Z")):
            graph = life_graph(*size, letter)
            for _ in range(300):
                self.check(graph, sorted(source.sample(range(len(graph[1])), 2)))

    def test_small_graphs(self):
        for graph in model.small_graphs(24, 100, 6, 9):
            flips = [edges for edges in model.edge_sets(graph)
                     if model.flip_of(graph, edges) and not model.odd_ends(graph, edges)]
            if flips:
                for edges in model.edge_sets(graph):
                    if 2 * len(edges) < len(flips[0]):
                        self.check(graph, edges)


if __name__ == "__main__":
    unittest.main()
