"""Part 7, points 7.8 to 7.10: fault distances and their certificates."""

import itertools
import random
import time
import unittest

from bastion.distance import distance_certificate, fault_distance, shows_distance
from bastion.errors import BastionError, NoSolution, NotBalanced
from bastion.graph import life_graph
from tests import model

LIVES = [(rows, columns, rounds) for rows in (2, 3, 4) for columns in (2, 3, 4) for rounds in (1, 2, 3)]

# A chain from one part of the boundary to the other; of its three edges, the one between the nodes flips.
CHAIN = (2, ((0, 1, 1), (0, 2, 0), (1, 2, 0)))


def undetected_flips(graph):
    """All undetected flips, the shorter ones first."""
    return [
        edges for edges in model.edge_sets(graph)
        if not model.odd_ends(graph, edges) and model.flip_of(graph, edges)
    ]


def fits(graph, size, sides, levels):
    """Point 7.9, straight from its words."""
    nodes, edges = graph
    if len(sides) != nodes or len(levels) != nodes:
        return False
    if not set(sides) <= {0, 1} or not set(levels) <= set(range(size + 1)):
        return False
    for a, b, flip in edges:
        if b < nodes:
            if (sides[a] + sides[b]) % 2 != flip or levels[a] - levels[b] not in (-1, 0, 1):
                return False
        elif flip == sides[a]:
            if levels[a] > 1:
                return False
        elif levels[a] < size - 1:
            return False
    return True


def all_lists(nodes, size):
    for sides in itertools.product((0, 1), repeat=nodes):
        for levels in itertools.product(range(size + 1), repeat=nodes):
            yield list(sides), list(levels)


class FaultDistanceTest(unittest.TestCase):

    def test_lives(self):
        for rows, columns, rounds in LIVES:
            self.assertEqual(fault_distance(life_graph(rows, columns, rounds, "X")), rows)
            self.assertEqual(fault_distance(life_graph(rows, columns, rounds, "Z")), columns)

    def test_large_lives(self):
        start = time.monotonic()
        for rows, columns, rounds in ((2, 9, 3), (9, 2, 3), (5, 7, 2), (9, 9, 10)):
            self.assertEqual(fault_distance(life_graph(rows, columns, rounds, "X")), rows)
            self.assertEqual(fault_distance(life_graph(rows, columns, rounds, "Z")), columns)
        self.assertLess(time.monotonic() - start, 10)

    def test_the_kind_of_value(self):
        self.assertIs(type(fault_distance(CHAIN)), int)

    def test_by_hand(self):
        self.assertEqual(fault_distance(CHAIN), 3)
        self.assertEqual(fault_distance((1, ((0, 1, 0), (0, 1, 1)))), 2)
        self.assertEqual(fault_distance((2, ((0, 1, 0), (0, 1, 1)))), 2)
        # A triangle with one flip is an undetected flip without the boundary.
        self.assertEqual(fault_distance((3, ((0, 1, 0), (0, 2, 1), (1, 2, 0)))), 3)
        # The ring of 1, 2, 3, 4 and 5 has five edges; with one more edge, the way through the boundary has four.
        ring = ((0, 1, 0), (0, 6, 0), (1, 2, 0), (1, 5, 0), (2, 3, 0), (3, 4, 1), (4, 5, 0))
        self.assertEqual(fault_distance((6, ring)), 5)
        self.assertEqual(fault_distance((6, tuple(sorted(ring + ((2, 6, 1),))))), 4)

    def test_a_walk_that_takes_edges_twice_does_not_count_them(self):
        """From the boundary, a ring of three edges is reached only along a path of two."""
        edges = ((0, 1, 0), (0, 4, 0), (1, 2, 0), (1, 3, 0), (2, 3, 1))
        self.assertEqual(fault_distance((4, edges)), 3)

    def test_no_undetected_flip(self):
        for graph in ((0, ()), (3, ()), (1, ((0, 1, 1),)), (2, ((0, 1, 1),)), (3, ((0, 1, 0), (1, 2, 1), (2, 3, 0))),
                      (2, ((0, 1, 1), (0, 2, 1), (1, 2, 0))), (4, ((0, 1, 1), (0, 2, 1), (1, 3, 1), (2, 3, 1)))):
            self.assertEqual(undetected_flips(graph), [])
            with self.assertRaises(NoSolution):
                fault_distance(graph)

    def test_small_graphs(self):
        for graph in model.small_graphs(4, 200, 6, 9):
            flips = undetected_flips(graph)
            if flips:
                self.assertEqual(fault_distance(graph), len(flips[0]))
            else:
                with self.assertRaises(NoSolution):
                    fault_distance(graph)

    def test_flips_between_nodes_that_no_sides_explain(self):
        """A long path with a ring at its far end."""
        count = 200
        path = [(k, k + 1, 0) for k in range(count)] + [(count - 3, count, 1)]
        graph = (count + 1, tuple(sorted(path + [(0, count + 1, 0)])))
        start = time.monotonic()
        self.assertEqual(fault_distance(graph), 4)
        self.assertLess(time.monotonic() - start, 5)


class ShowsDistanceTest(unittest.TestCase):

    def test_by_hand(self):
        self.assertIs(shows_distance(CHAIN, 3, [0, 1], [1, 2]), True)
        self.assertIs(shows_distance(CHAIN, 3, [1, 0], [2, 1]), True)
        self.assertIs(shows_distance(CHAIN, 2, [0, 1], [1, 1]), True)
        self.assertIs(shows_distance(CHAIN, 1, [0, 1], [0, 0]), True)
        self.assertIs(shows_distance(CHAIN, 4, [0, 1], [1, 2]), False)
        self.assertIs(shows_distance((0, ()), 1, [], []), True)
        self.assertIs(shows_distance((0, ()), 7, [], []), True)

    def test_one_condition_broken(self):
        # The sides do not explain the edge between the nodes.
        self.assertIs(shows_distance(CHAIN, 3, [0, 0], [1, 1]), False)
        self.assertIs(shows_distance((2, ((0, 1, 0),)), 1, [0, 1], [0, 0]), False)
        # The levels of neighbours differ by 2.
        self.assertIs(shows_distance(CHAIN, 3, [0, 1], [1, 3]), False)
        self.assertIs(shows_distance(CHAIN, 3, [0, 1], [0, 2]), False)
        # The edge to the boundary on the own side stands at level 2, the other one below size - 1.
        self.assertIs(shows_distance(CHAIN, 3, [0, 1], [2, 2]), False)
        self.assertIs(shows_distance(CHAIN, 3, [0, 1], [1, 1]), False)

    def test_the_boundary_at_levels_of_the_edge(self):
        one = (1, ((0, 1, 0),))
        self.assertEqual([shows_distance(one, 3, [0], [level]) for level in range(4)], [True, True, False, False])
        self.assertEqual([shows_distance(one, 3, [1], [level]) for level in range(4)], [False, False, True, True])
        flipped = (1, ((0, 1, 1),))
        self.assertEqual([shows_distance(flipped, 3, [1], [level]) for level in range(4)], [True, True, False, False])
        self.assertEqual([shows_distance(flipped, 3, [0], [level]) for level in range(4)], [False, False, True, True])

    def test_other_lengths(self):
        for sides, levels in (([], []), ([0], [1]), ([0], [1, 2]), ([0, 1], [1]), ([0, 1, 0], [1, 2]),
                              ([0, 1], [1, 2, 1]), ([0, 1, 0], [1, 2, 1]), ([0, 1], []), ([], [1, 2])):
            self.assertIs(shows_distance(CHAIN, 3, sides, levels), False)
        self.assertIs(shows_distance((0, ()), 1, [0], [0]), False)
        self.assertIs(shows_distance((2, ()), 1, [0], [0]), False)
        self.assertIs(shows_distance((2, ()), 1, [0, 0], [0, 0]), True)

    def test_other_values(self):
        for sides in ([0, 3], [2, 1], [-1, 0], [0, -1], [2, 3], [-2, -1]):
            self.assertIs(shows_distance(CHAIN, 3, sides, [1, 2]), False)
        for levels in ([-1, 0], [1, -1], [4, 4], [1, 4], [-1, -1], [3, 4], [100, 101]):
            self.assertIs(shows_distance(CHAIN, 3, [0, 1], levels), False)
        # Nodes without edges are looked at, too.
        free = (2, ())
        self.assertIs(shows_distance(free, 3, [0, 1], [0, 3]), True)
        for sides, levels in (([0, 2], [0, 3]), ([-1, 0], [0, 3]), ([0, 1], [0, 4]), ([0, 1], [-1, 3])):
            self.assertIs(shows_distance(free, 3, sides, levels), False)

    def test_all_lists_of_small_graphs(self):
        for graph in model.small_graphs(5, 30, 3, 6):
            flips = undetected_flips(graph)
            for size in (1, 2, 3):
                for sides, levels in all_lists(graph[0], size):
                    shown = shows_distance(graph, size, sides, levels)
                    self.assertIs(shown, fits(graph, size, sides, levels))
                    if shown and flips:
                        self.assertGreaterEqual(len(flips[0]), size)

    def test_certificates_with_one_value_changed(self):
        for rows, columns, rounds in ((2, 3, 1), (3, 3, 1), (4, 3, 2)):
            for letter in "XZ":
                graph = life_graph(rows, columns, rounds, letter)
                edges, sides, levels = distance_certificate(graph)
                size = len(edges)
                self.assertIs(shows_distance(graph, size, sides, levels), True)
                self.assertIs(shows_distance(graph, size + 1, sides, levels), False)
                for node in range(graph[0]):
                    for value in range(-1, size + 2):
                        changed = levels[:node] + [value] + levels[node + 1:]
                        self.assertIs(shows_distance(graph, size, sides, changed), fits(graph, size, sides, changed))
                    for value in (-1, 1 - sides[node], 2):
                        changed = sides[:node] + [value] + sides[node + 1:]
                        self.assertIs(shows_distance(graph, size, changed, levels), False)

    def test_the_arguments_stay(self):
        sides, levels = [0, 1], [1, 2]
        shows_distance(CHAIN, 3, sides, levels)
        self.assertEqual((sides, levels), ([0, 1], [1, 2]))


class CertificateTest(unittest.TestCase):

    def check(self, graph, size):
        answer = distance_certificate(graph)
        self.assertIs(type(answer), tuple)
        self.assertEqual([type(part) for part in answer], [list] * 3)
        edges, sides, levels = answer
        self.assertEqual(edges, sorted(set(edges)))
        self.assertEqual(model.odd_ends(graph, edges), [])
        self.assertEqual(model.flip_of(graph, edges), 1)
        self.assertEqual(len(edges), size)
        self.assertTrue(all(type(value) is int for part in answer for value in part))
        self.assertTrue(fits(graph, size, sides, levels))
        self.assertIs(shows_distance(graph, size, sides, levels), True)

    def test_lives(self):
        for rows, columns, rounds in LIVES:
            self.check(life_graph(rows, columns, rounds, "X"), rows)
            self.check(life_graph(rows, columns, rounds, "Z"), columns)

    def test_large_lives(self):
        start = time.monotonic()
        for rows, columns, rounds in ((9, 9, 10), (2, 9, 4), (7, 3, 4)):
            self.check(life_graph(rows, columns, rounds, "X"), rows)
            self.check(life_graph(rows, columns, rounds, "Z"), columns)
        self.assertLess(time.monotonic() - start, 20)

    def test_parts_of_a_graph(self):
        """Two chains between both parts of the boundary, a part without boundary and a node alone."""
        edges = ((0, 1, 1), (0, 7, 1), (1, 2, 0), (2, 7, 1), (3, 4, 0), (3, 7, 0), (4, 7, 1), (5, 6, 1))
        self.check((7, edges), 3)
        self.check((8, tuple((a, 8 if b == 7 else b, flip) for a, b, flip in edges)), 3)

    def test_no_undetected_flip(self):
        for graph in ((0, ()), (2, ()), (1, ((0, 1, 1),)), (3, ((0, 1, 0), (1, 2, 1), (2, 3, 0))),
                      (2, ((0, 1, 1), (0, 2, 1), (1, 2, 0))), (4, ((0, 1, 1), (0, 2, 1), (1, 3, 1), (2, 3, 1)))):
            with self.assertRaises(NoSolution):
                distance_certificate(graph)

    def test_flips_that_no_sides_explain(self):
        for graph in ((3, ((0, 1, 0), (0, 2, 1), (1, 2, 0))), (2, ((0, 1, 0), (0, 1, 1))),
                      (2, ((0, 1, 0), (0, 1, 1), (0, 2, 0), (1, 2, 1))),
                      (3, ((0, 1, 1), (0, 2, 1), (1, 2, 1), (2, 3, 0))),
                      (4, ((0, 4, 0), (0, 4, 1), (1, 2, 0), (1, 3, 0), (2, 3, 1)))):
            with self.assertRaises(NotBalanced):
                distance_certificate(graph)

    def test_small_graphs(self):
        """Against all lists: there are some if and only if there is an answer."""
        for graph in model.small_graphs(6, 60, 3, 7):
            flips = undetected_flips(graph)
            size = len(flips[0]) if flips else 1
            try:
                distance_certificate(graph)
                self.check(graph, size)
            except BastionError as error:
                there_are = any(fits(graph, size, *lists) for lists in all_lists(graph[0], size))
                wanted = (NotBalanced if not there_are else None) if flips else NoSolution
                self.assertIs(type(error), wanted)

    def test_more_nodes(self):
        """Graphs that are made from sides have certificates, unless there is no undetected flip."""
        source = random.Random(7)
        for _ in range(100):
            nodes, edges = model.random_graph(source, source.randint(2, 7), source.randint(1, 11))
            sides = model.random_bits(source, nodes)
            kept = {(a, b, flip if b == nodes else sides[a] ^ sides[b]) for a, b, flip in edges}
            graph = (nodes, tuple(sorted(kept)))
            flips = undetected_flips(graph)
            if flips:
                self.check(graph, len(flips[0]))
            else:
                with self.assertRaises(NoSolution):
                    distance_certificate(graph)

    def test_the_lists_are_new(self):
        first = distance_certificate(CHAIN)
        for part in first:
            part.clear()
        self.check(CHAIN, 3)


if __name__ == "__main__":
    unittest.main()
