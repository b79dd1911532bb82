"""Part 8, points 8.1 to 8.5: least joins and their certificates."""

import itertools
import random
import time
import unittest

from bastion.errors import NoJoin, TooMany
from bastion.graph import life_graph
from bastion.joins import MAX_FIRED, least_join, shows_least
from tests import model

CHAIN = (3, ((0, 1, 0), (1, 2, 0), (2, 3, 1)))

# Three nodes in a ring, each with an edge to the boundary.
RING = (3, ((0, 1, 0), (0, 2, 0), (0, 3, 0), (1, 2, 0), (1, 3, 0), (2, 3, 0)))

# A part with the boundary, two parts without it, and a node alone; the boundary is 9.
PARTS = (9, ((0, 1, 0), (1, 2, 1), (2, 9, 0), (3, 4, 0), (3, 5, 0), (4, 5, 0), (6, 7, 0), (6, 7, 1)))


def fired_lists(nodes):
    return [list(some) for count in range(nodes + 1) for some in itertools.combinations(range(nodes), count)]


def least_sizes(graph):
    """A dict from the fired nodes, as a tuple, to the least number of edges of their joins."""
    sizes = {}
    for edges in model.edge_sets(graph):
        sizes.setdefault(tuple(model.odd_ends(graph, edges)), len(edges))
    return sizes


class ShowsLeastTest(unittest.TestCase):

    def test_example(self):
        self.assertIs(shows_least(CHAIN, [0, 1], 1, [1, 2]), True)

    def test_lists_that_hold(self):
        self.assertIs(shows_least(CHAIN, [0], 3, [1, 1, 3, 3, 7, 7]), True)
        self.assertIs(shows_least(CHAIN, [0], 2, [1, 3, 7, 1]), True)
        self.assertIs(shows_least(CHAIN, [2], 1, [4, 7]), True)
        self.assertIs(shows_least(CHAIN, [0, 2], 2, [1, 1, 4, 4]), True)
        self.assertIs(shows_least(RING, [0, 1, 2], 2, [1, 2, 4, 7]), True)
        self.assertIs(shows_least(RING, [0, 1, 2], 1, [4, 7]), True)

    def test_one_too_many_and_one_too_few(self):
        cuts = [1, 1, 3, 3, 7, 7]
        self.assertIs(shows_least(CHAIN, [0], 3, cuts), True)
        self.assertIs(shows_least(CHAIN, [0], 3, cuts[1:]), False)
        self.assertIs(shows_least(CHAIN, [0], 3, cuts[:5]), False)
        self.assertIs(shows_least(CHAIN, [0], 2, cuts[:5]), False)
        self.assertIs(shows_least(CHAIN, [0], 2, cuts), False)
        self.assertIs(shows_least(CHAIN, [0], 4, cuts), False)
        self.assertIs(shows_least(PARTS, [3, 4], 1, [8, 16, 8]), False)
        self.assertIs(shows_least(PARTS, [3, 4], 1, [8]), False)
        self.assertIs(shows_least(PARTS, [3, 4], 1, []), False)

    def test_a_mask_that_is_no_cut(self):
        for mask in (0, 2, 4, 6):
            self.assertIs(shows_least(CHAIN, [0], 1, [1, mask]), False)
            self.assertIs(shows_least(CHAIN, [0], 1, [mask, 1]), False)
        self.assertIs(shows_least(CHAIN, [0, 1], 1, [1, 3]), False)
        self.assertIs(shows_least(CHAIN, [0, 1, 2], 1, [4, 7]), True)
        self.assertIs(shows_least(CHAIN, [0, 1, 2], 1, [4, 6]), False)
        self.assertIs(shows_least((3, ()), [0], 1, [1, 2]), False)

    def test_an_edge_that_leaves_three_cuts(self):
        self.assertIs(shows_least(CHAIN, [0], 2, [1, 1, 1, 3]), False)
        self.assertIs(shows_least(CHAIN, [0, 1], 2, [1, 2, 1, 2]), False)
        self.assertIs(shows_least(CHAIN, [2], 2, [4, 4, 7, 7]), False)
        self.assertIs(shows_least((1, ((0, 1, 0),)), [0], 1, [1, 1]), True)
        self.assertIs(shows_least((1, ((0, 1, 0), (0, 1, 1))), [0], 2, [1, 1, 1, 1]), False)

    def test_the_boundary_is_never_a_member(self):
        """An edge to the boundary leaves every cut that contains its node."""
        graph = (2, ((0, 1, 0), (0, 2, 0), (1, 2, 0)))
        self.assertIs(shows_least(graph, [0], 1, [1, 1]), True)
        self.assertIs(shows_least(graph, [0], 1, [3, 3]), True)
        self.assertIs(shows_least(graph, [0], 2, [1, 1, 3, 3]), False)
        self.assertIs(shows_least(graph, [0, 1], 1, [1, 2]), True)
        self.assertIs(shows_least(graph, [0, 1], 2, [1, 2, 1, 2]), False)

    def test_the_size_0(self):
        self.assertIs(shows_least(CHAIN, [], 0, []), True)
        self.assertIs(shows_least(CHAIN, [0], 0, []), True)
        self.assertIs(shows_least(CHAIN, [0], 0, [1]), False)
        self.assertIs(shows_least(CHAIN, [0], 0, [1, 1]), False)
        self.assertIs(shows_least((0, ()), [], 0, []), True)

    def test_all_lists_of_two_cuts(self):
        for graph in model.small_graphs(8, 20, 4, 7):
            for fired in fired_lists(graph[0]):
                for cuts in itertools.product(range(2 ** graph[0]), repeat=2):
                    shown = shows_least(graph, fired, 1, list(cuts))
                    self.assertIs(shown, model.is_least_shown(graph, fired, 1, list(cuts)))

    def test_random_lists(self):
        source = random.Random(9)
        for graph in model.small_graphs(10, 40, 5, 7):
            for _ in range(60):
                fired = sorted(source.sample(range(graph[0]), source.randint(0, graph[0])))
                size = source.randrange(4)
                odd = [mask for mask in range(2 ** graph[0]) if len(set(model.members(mask)) & set(fired)) % 2]
                cuts = [source.choice(odd or [0]) for _ in range(2 * size)]
                shown = shows_least(graph, fired, size, cuts)
                self.assertIs(shown, model.is_least_shown(graph, fired, size, cuts))

    def test_the_arguments_stay(self):
        fired, cuts = [0], [7, 1, 3, 3]
        shows_least(CHAIN, fired, 2, cuts)
        self.assertEqual((fired, cuts), ([0], [7, 1, 3, 3]))


class LeastJoinTest(unittest.TestCase):

    def check(self, graph, fired):
        """Checks the answer, and returns the number of edges."""
        given = list(fired)
        answer = least_join(graph, given)
        self.assertEqual(given, fired)
        self.assertIs(type(answer), tuple)
        edges, cuts = answer
        self.assertEqual((type(edges), type(cuts)), (list, list))
        self.assertEqual(edges, sorted(set(edges)))
        self.assertEqual(model.odd_ends(graph, edges), fired)
        self.assertTrue(all(type(mask) is int and 0 <= mask < 2 ** graph[0] for mask in cuts))
        self.assertTrue(model.is_least_shown(graph, fired, len(edges), cuts))
        self.assertIs(shows_least(graph, fired, len(edges), cuts), True)
        return len(edges)

    def test_by_hand(self):
        self.assertEqual(least_join(CHAIN, [0, 1])[0], [0])
        self.assertEqual(least_join(CHAIN, [0, 2])[0], [0, 1])
        self.assertEqual(least_join(CHAIN, [0])[0], [0, 1, 2])
        self.assertEqual(least_join(CHAIN, [0, 1, 2])[0], [0, 2])
        self.assertEqual(least_join(CHAIN, []), ([], []))
        self.assertEqual(least_join((0, ()), []), ([], []))
        self.assertEqual(self.check(RING, [0, 1, 2]), 2)
        self.assertEqual(self.check(RING, [0, 1]), 1)
        # Through the boundary it is shorter than along the chain.
        chain = (5, ((0, 1, 0), (0, 5, 0), (1, 2, 0), (2, 3, 0), (3, 4, 0), (4, 5, 1)))
        self.assertEqual(least_join(chain, [0, 4])[0], [1, 5])
        self.assertEqual(least_join(chain, [1, 3])[0], [2, 3])

    def test_small_graphs_against_all_sets_of_edges(self):
        for graph in model.small_graphs(11, 120, 5, 9):
            sizes = least_sizes(graph)
            for fired in fired_lists(graph[0]):
                if tuple(fired) in sizes:
                    self.assertEqual(self.check(graph, fired), sizes[tuple(fired)])
                else:
                    with self.assertRaises(NoJoin):
                        least_join(graph, fired)

    def test_sparse_graphs_with_more_nodes(self):
        source = random.Random(12)
        for _ in range(25):
            graph = model.random_graph(source, source.randint(6, 10), 10)
            for fired, size in least_sizes(graph).items():
                self.assertEqual(self.check(graph, list(fired)), size)

    def test_graphs_in_several_parts(self):
        sizes = least_sizes(PARTS)
        for fired in fired_lists(9):
            if tuple(fired) in sizes:
                self.assertEqual(self.check(PARTS, fired), sizes[tuple(fired)])
            else:
                with self.assertRaises(NoJoin):
                    least_join(PARTS, fired)
        self.assertEqual(least_join(PARTS, [0, 4, 5, 6, 7])[0][:4], [0, 1, 2, 5])

    def test_no_join(self):
        for graph, fired in (((1, ()), [0]), ((2, ()), [0, 1]), ((2, ((0, 1, 0),)), [0]), (PARTS, [8]), (PARTS, [3]),
                             (PARTS, [0, 3]), (PARTS, [3, 4, 5]), (PARTS, [3, 6]), (PARTS, [0, 1, 6, 8])):
            with self.assertRaises(NoJoin):
                least_join(graph, fired)

    def test_the_greatest_number_of_fired_nodes(self):
        self.assertEqual(MAX_FIRED, 10)
        self.assertIs(type(MAX_FIRED), int)
        graph = life_graph(3, 3, 3, "X")
        self.check(graph, list(range(10)))
        self.check(graph, list(range(6, 16)))
        for fired in (list(range(11)), list(range(16)), list(range(1, 12))):
            with self.assertRaises(TooMany):
                least_join(graph, fired)

    def test_too_many_comes_before_no_join(self):
        with self.assertRaises(TooMany):
            least_join((11, ()), list(range(11)))
        with self.assertRaises(NoJoin):
            least_join((11, ()), list(range(10)))

    def test_lives_against_all_pairings(self):
        source = random.Random(13)
        for size in ((2, 2, 3), (3, 3, 2), (4, 3, 2), (3, 5, 2)):
            for letter in "XZ":
                graph = life_graph(*size, letter)
                for count in (1, 2, 3, 4, 5, 6):
                    count = min(count, graph[0])
                    fired = sorted(source.sample(range(graph[0]), count))
                    self.assertEqual(self.check(graph, fired), least_pairing(graph, fired))

    def test_the_time_of_5_x_5_with_2_rounds(self):
        source = random.Random(14)
        for letter in "XZ":
            graph = life_graph(5, 5, 2, letter)
            for count in (7, 8, 9, 10, 10, 10):
                fired = sorted(source.sample(range(graph[0]), count))
                start = time.monotonic()
                least_join(graph, fired)
                self.assertLess(time.monotonic() - start, 1)
                self.check(graph, fired)

    def test_the_largest_life(self):
        source = random.Random(15)
        graph = life_graph(9, 9, 10, "Z")
        start = time.monotonic()
        for count in (9, 10):
            least_join(graph, sorted(source.sample(range(graph[0]), count)))
        self.assertLess(time.monotonic() - start, 10)
        self.check(graph, sorted(source.sample(range(graph[0]), 10)))

    def test_a_long_chain(self):
        """Many levels, and paths much longer than the depth to which calls may be nested."""
        count = 1000
        graph = (count, tuple((k, k + 1, 0) for k in range(count)))
        edges, cuts = least_join(graph, [0])
        self.assertEqual(edges, list(range(count)))
        self.assertIs(shows_least(graph, [0], count, cuts), True)

    def test_the_lists_are_new(self):
        edges, cuts = least_join(CHAIN, [0])
        edges.clear()
        cuts.clear()
        self.assertEqual(self.check(CHAIN, [0]), 3)


def far_apart(graph, start):
    """The distances from a vertex, by widening the set of reached vertices."""
    far = {start: 0}
    while True:
        more = {}
        for a, b, _ in graph[1]:
            for one, other in ((a, b), (b, a)):
                if one in far and other not in far:
                    more.setdefault(other, far[one] + 1)
        if not more:
            return far
        far.update(more)


def least_pairing(graph, fired):
    """The least sum of distances, over all ways to pair the fired nodes and, if they are odd, the boundary."""
    points = fired + [graph[0]] * (len(fired) % 2)
    far = {point: far_apart(graph, point) for point in points}

    def best(left):
        if not left:
            return 0
        return min(far[left[0]][other] + best([v for v in left[1:] if v != other]) for other in left[1:])

    return best(points)


if __name__ == "__main__":
    unittest.main()
