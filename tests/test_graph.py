"""Part 7, points 7.4 to 7.7: the graphs of lives, and functions of graphs."""

import random
import time
import unittest

from bastion.circuit import life_ops
from bastion.faults import run_frame, simple_faults
from bastion.graph import distances, life_graph, odd_nodes, total_flip
from bastion.patch import corners, patch
from bastion.record import fired_nodes, record_of
from tests import model

PATCHES = [(rows, columns) for rows in (2, 3, 4) for columns in (2, 3, 4)]

PATH = (3, ((0, 1, 0), (1, 2, 1), (2, 3, 0)))

# Two parts without the boundary, one with it, and a node alone; the boundary is 8.
PARTS = (8, ((0, 1, 0), (0, 1, 1), (1, 2, 0), (3, 4, 1), (5, 6, 0), (5, 6, 1), (5, 8, 0), (5, 8, 1), (6, 8, 1)))


def results_of(size, letter, signs):
    """What each fault of one letter fires, and its flip, from its record and its final frame."""
    rows, columns, rounds = size
    ops = life_ops(*size)
    code = patch(rows, columns)
    data = 2 ** (rows * columns) - 1
    found = []
    for fault in simple_faults(ops, letter):
        record = record_of(rows, columns, rounds, signs, [fault])
        _, x, z = run_frame(ops, [fault])
        flip = code.logical_bits(letter, (x if letter == "X" else z) & data)[0]
        found.append((record, fired_nodes(rows, columns, record, letter), flip))
    return found


def edge_of(nodes, fired, flip):
    """The edge of a fault that fires one node or two."""
    return (*fired, flip) if len(fired) == 2 else (*fired, nodes, flip)


class LifeGraphTest(unittest.TestCase):

    def check(self, size, letter):
        rows, columns, rounds = size
        letters = [corner[0] for corner in corners(rows, columns)]
        nodes, edges = life_graph(rows, columns, rounds, letter)
        self.assertEqual(nodes, (rounds + 1) * (len(letters) - letters.count(letter)))
        wanted = set()
        other = "Z" if letter == "X" else "X"
        signs = [k % 3 % 2 for k in range(len(letters))]
        for record, fired, flip in results_of(size, letter, signs):
            self.assertLessEqual(len(fired), 2)
            self.assertEqual(fired_nodes(rows, columns, record, other), [])
            if fired:
                wanted.add(edge_of(nodes, fired, flip))
            else:
                self.assertEqual(flip, 0)
        self.assertEqual(edges, tuple(sorted(wanted)))

    def test_the_edges_are_the_different_results(self):
        for rows, columns in PATCHES:
            for rounds in (1, 2, 3):
                for letter in "XZ":
                    self.check((rows, columns, rounds), letter)

    def test_a_graph_by_hand(self):
        """Z waits on qubits 0 to 3 of 2 x 2; the one X check is on all of them, the X logical on 0 and 2."""
        nodes, edges = life_graph(2, 2, 1, "Z")
        self.assertEqual(nodes, 2)
        self.assertEqual(edges, ((0, 1, 0), (0, 2, 0), (0, 2, 1), (1, 2, 0), (1, 2, 1)))

    def test_the_form_of_a_graph(self):
        for rows, columns, rounds in ((2, 2, 1), (3, 5, 2), (5, 3, 4), (9, 9, 1)):
            for letter in "XZ":
                graph = life_graph(rows, columns, rounds, letter)
                self.assertIs(type(graph), tuple)
                nodes, edges = graph
                self.assertIs(type(nodes), int)
                self.assertIs(type(edges), tuple)
                self.assertEqual(list(edges), sorted(set(edges)))
                for edge in edges:
                    self.assertIs(type(edge), tuple)
                    self.assertTrue(all(type(value) is int for value in edge))
                    a, b, flip = edge
                    self.assertTrue(0 <= a < b <= nodes and flip in (0, 1))

    def test_every_round_has_the_same_edges(self):
        """Up to the moves, and each edge lies in one round: in the rows t and t + 1."""
        for rows, columns in ((3, 3), (2, 5)):
            for letter in "XZ":
                one_nodes, one_edges = life_graph(rows, columns, 1, letter)
                many = one_nodes // 2
                nodes, edges = life_graph(rows, columns, 4, letter)
                moved = set()
                for t in range(4):
                    for a, b, flip in one_edges:
                        moved.add((a + t * many, nodes if b == one_nodes else b + t * many, flip))
                self.assertEqual(edges, tuple(sorted(moved)))

    def test_faults_of_several_places_fire_the_odd_nodes_of_their_edges(self):
        source = random.Random(1)
        for size in ((3, 3, 2), (4, 3, 2), (2, 4, 3)):
            signs = model.random_bits(source, size[0] * size[1] - 1)
            for letter in "XZ":
                graph = life_graph(*size, letter)
                every = list(zip(simple_faults(life_ops(*size), letter), results_of(size, letter, signs)))
                chosen = source.sample(every, 6)
                edges = [edge_of(graph[0], fired, flip) for _, (_, fired, flip) in chosen if fired]
                kept = [k for k, edge in enumerate(graph[1]) if edges.count(edge) % 2 == 1]
                record = record_of(*size, signs, [fault for fault, _ in chosen])
                self.assertEqual(odd_nodes(graph, kept), fired_nodes(size[0], size[1], record, letter))

    def test_the_largest_graph(self):
        start = time.monotonic()
        for letter in "XZ":
            self.assertEqual(life_graph(9, 9, 10, letter)[0], 440)
        self.assertLess(time.monotonic() - start, 5)


class OddNodesTest(unittest.TestCase):

    def test_example(self):
        self.assertEqual(odd_nodes(PATH, [0, 1, 2]), [0])

    def test_by_hand(self):
        self.assertEqual(odd_nodes(PATH, []), [])
        self.assertEqual(odd_nodes(PATH, [1]), [1, 2])
        self.assertEqual(odd_nodes(PATH, [2]), [2])
        self.assertEqual(odd_nodes(PATH, [0, 2]), [0, 1, 2])
        self.assertEqual(odd_nodes(PARTS, [0, 1]), [])
        self.assertEqual(odd_nodes(PARTS, [6, 7]), [])
        self.assertEqual(odd_nodes(PARTS, [6, 8]), [5, 6])
        self.assertEqual(odd_nodes(PARTS, [4, 5, 6]), [5])
        self.assertEqual(odd_nodes((0, ()), []), [])

    def test_all_sets_of_edges(self):
        for graph in model.small_graphs(1, 25, 5, 7) + [PATH, PARTS]:
            for edges in model.edge_sets(graph):
                found = odd_nodes(graph, edges)
                self.assertIs(type(found), list)
                self.assertEqual(found, model.odd_ends(graph, edges))

    def test_the_arguments_stay(self):
        edges = [0, 1, 2]
        odd_nodes(PATH, edges).clear()
        self.assertEqual(odd_nodes(PATH, edges), [0])
        self.assertEqual(edges, [0, 1, 2])


class TotalFlipTest(unittest.TestCase):

    def test_by_hand(self):
        self.assertEqual(total_flip(PATH, []), 0)
        self.assertEqual([total_flip(PATH, [k]) for k in range(3)], [0, 1, 0])
        self.assertEqual(total_flip(PARTS, [1, 3]), 0)
        self.assertEqual(total_flip(PARTS, [1, 3, 5]), 1)
        self.assertEqual(total_flip((0, ()), []), 0)

    def test_all_sets_of_edges(self):
        for graph in model.small_graphs(2, 25, 5, 7) + [PATH, PARTS]:
            for edges in model.edge_sets(graph):
                found = total_flip(graph, edges)
                self.assertIs(type(found), int)
                self.assertEqual(found, model.flip_of(graph, edges))


def expected_distances(graph, start):
    """By taking one more edge as often as there are vertices."""
    nodes, edges = graph
    far = [0 if vertex == start else -1 for vertex in range(nodes + 1)]
    for step in range(nodes + 1):
        reached = [vertex for vertex in range(nodes + 1) if far[vertex] == step]
        for a, b, _ in edges:
            for one, other in ((a, b), (b, a)):
                if one in reached and far[other] == -1:
                    far[other] = step + 1
    return far


class DistancesTest(unittest.TestCase):

    def test_by_hand(self):
        self.assertEqual(distances(PATH, 0), [0, 1, 2, 3])
        self.assertEqual(distances(PATH, 2), [2, 1, 0, 1])
        self.assertEqual(distances(PATH, 3), [3, 2, 1, 0])

    def test_nodes_that_cannot_be_reached(self):
        self.assertEqual(distances(PARTS, 0), [0, 1, 2, -1, -1, -1, -1, -1, -1])
        self.assertEqual(distances(PARTS, 4), [-1, -1, -1, 1, 0, -1, -1, -1, -1])
        self.assertEqual(distances(PARTS, 7), [-1, -1, -1, -1, -1, -1, -1, 0, -1])

    def test_a_start_at_the_boundary(self):
        self.assertEqual(distances(PARTS, 8), [-1, -1, -1, -1, -1, 1, 1, -1, 0])
        self.assertEqual(distances((2, ((0, 1, 0),)), 2), [-1, -1, 0])
        self.assertEqual(distances((0, ()), 0), [0])

    def test_a_path_through_the_boundary(self):
        graph = (4, ((0, 1, 0), (0, 4, 0), (1, 2, 0), (2, 3, 0), (3, 4, 1)))
        self.assertEqual(distances(graph, 0), [0, 1, 2, 2, 1])

    def test_no_edges(self):
        self.assertEqual(distances((3, ()), 1), [-1, 0, -1, -1])
        self.assertEqual(distances((3, ()), 3), [-1, -1, -1, 0])

    def test_small_graphs(self):
        for graph in model.small_graphs(3, 150, 9, 14) + [PATH, PARTS]:
            for start in range(graph[0] + 1):
                found = distances(graph, start)
                self.assertIs(type(found), list)
                self.assertEqual(found, expected_distances(graph, start))

    def test_lives(self):
        for rows, columns, rounds in ((2, 2, 1), (3, 3, 2), (4, 5, 3)):
            for letter in "XZ":
                graph = life_graph(rows, columns, rounds, letter)
                for start in (0, graph[0] // 2, graph[0]):
                    self.assertEqual(distances(graph, start), expected_distances(graph, start))

    def test_a_long_path(self):
        count = 3000
        graph = (count, tuple((k, k + 1, 0) for k in range(count)))
        self.assertEqual(distances(graph, 0), list(range(count + 1)))


if __name__ == "__main__":
    unittest.main()
