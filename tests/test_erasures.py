"""Part 12: erasures."""

import itertools
import random
import time
import unittest

from bastion.circuit import life_ops
from bastion.erasures import cheapest_join, decoded_with, erased_edges, shows_cheapest
from bastion.errors import InvalidRecord, NoJoin, TooMany
from bastion.faults import run_state, simple_faults
from bastion.graph import life_graph
from bastion.joins import least_join, shows_least
from bastion.memory import Decoding, Memory
from bastion.patch import corners
from bastion.pauli import read_pauli
from bastion.record import fired_nodes, record_of
from bastion.state import State, joined_state
from tests import model
from tests.test_joins import CHAIN, PARTS, RING, fired_lists
from tests.test_memory import final_errors, random_signs, record_with, with_letters


def free_lists(source, graph, count):
    """No edge, all edges, and some lists of some edges."""
    indexes = list(range(len(graph[1])))
    return [[], indexes] + [sorted(source.sample(indexes, source.randint(0, len(indexes)))) for _ in range(count)]


class ErasedEdgesTest(unittest.TestCase):

    def edge_of_fault(self, rows, columns, rounds, letter, fault):
        """The edge that a fault stands for, from its record and its frame alone; None if it fires nothing."""
        ops = life_ops(rows, columns, rounds)
        record = record_of(rows, columns, rounds, [0] * (rows * columns - 1), [fault])
        nodes = life_graph(rows, columns, rounds, letter)[0]
        fired = fired_nodes(rows, columns, record, letter)
        _, x, z = model.frame(ops, [fault])
        places = range(columns) if letter == "X" else range(0, rows * columns, columns)
        flip = sum((x if letter == "X" else z) >> q & 1 for q in places) % 2
        return (fired[0], fired[1] if len(fired) == 2 else nodes, flip) if fired else None

    def edges_at(self, rows, columns, rounds, letter):
        """For each operation the set of the indexes of its edges."""
        ops = life_ops(rows, columns, rounds)
        listed = list(life_graph(rows, columns, rounds, letter)[1])
        found = [set() for _ in ops]
        for fault in simple_faults(ops, letter):
            edge = self.edge_of_fault(rows, columns, rounds, letter, fault)
            if edge:
                found[fault[0]].add(listed.index(edge))
        return found

    def test_example(self):
        self.assertEqual(erased_edges(2, 2, 1, "Z", [5]), [0])

    def test_against_the_results_of_single_faults(self):
        source = random.Random(1)
        for size in ((2, 2, 1), (2, 2, 3), (2, 3, 2), (3, 2, 2), (3, 3, 1), (3, 3, 2), (2, 4, 1), (4, 3, 1)):
            for letter in "XZ":
                found = self.edges_at(*size, letter)
                for at, edges in enumerate(found):
                    self.assertEqual(erased_edges(*size, letter, [at]), sorted(edges))
                for _ in range(8):
                    erasures = sorted(source.sample(range(len(found)), source.randint(0, 6)))
                    given = list(erasures)
                    wanted = set().union(*[found[at] for at in erasures])
                    self.assertEqual(erased_edges(*size, letter, erasures), sorted(wanted))
                    self.assertEqual(erasures, given)

    def test_no_and_all_erasures(self):
        for size in ((2, 2, 1), (3, 3, 2), (2, 5, 3)):
            for letter in "XZ":
                edges = life_graph(*size, letter)[1]
                self.assertEqual(erased_edges(*size, letter, []), [])
                everything = list(range(len(life_ops(*size))))
                self.assertEqual(erased_edges(*size, letter, everything), list(range(len(edges))))


class ShowsCheapestTest(unittest.TestCase):

    def test_example(self):
        self.assertIs(shows_cheapest(CHAIN, [0], [0, 2], 1, [3, 4]), True)

    def test_lists_that_hold(self):
        self.assertIs(shows_cheapest(CHAIN, [], [0], 3, [1, 1, 3, 3, 7, 7]), True)
        self.assertIs(shows_cheapest(CHAIN, [0], [0], 2, [3, 3, 7, 7]), True)
        self.assertIs(shows_cheapest(CHAIN, [1], [0], 2, [1, 1, 7, 7]), True)
        self.assertIs(shows_cheapest(CHAIN, [0, 1, 2], [0], 0, []), True)
        self.assertIs(shows_cheapest(RING, [], [0, 1, 2], 2, [1, 2, 4, 7]), True)

    def test_one_too_many_and_one_too_few(self):
        cuts = [3, 3, 7, 7]
        self.assertIs(shows_cheapest(CHAIN, [0], [0], 2, cuts), True)
        for size, list_of_cuts in ((2, cuts[1:]), (2, cuts[:3]), (2, cuts + [7]), (1, cuts), (3, cuts), (0, cuts),
                                   (2, []), (1, cuts[:3]), (1, cuts[:1])):
            self.assertIs(shows_cheapest(CHAIN, [0], [0], size, list_of_cuts), False)

    def test_a_free_edge_that_leaves_one_cut(self):
        self.assertIs(shows_cheapest(CHAIN, [], [0], 2, [1, 3, 3, 7]), True)
        self.assertIs(shows_cheapest(CHAIN, [0], [0], 2, [1, 3, 3, 7]), False)
        self.assertIs(shows_cheapest(CHAIN, [1], [0], 2, [1, 3, 3, 7]), False)
        self.assertIs(shows_cheapest(CHAIN, [2], [0], 2, [1, 3, 3, 7]), False)
        self.assertIs(shows_cheapest(CHAIN, [2], [0], 2, [1, 3, 3, 1]), True)

    def test_another_edge_that_leaves_three_cuts(self):
        self.assertIs(shows_cheapest(CHAIN, [2], [0], 2, [1, 1, 1, 3]), False)
        self.assertIs(shows_cheapest(CHAIN, [0], [0], 2, [3, 3, 3, 7]), False)
        self.assertIs(shows_cheapest(CHAIN, [0], [0, 2], 1, [3, 3]), True)
        self.assertIs(shows_cheapest(CHAIN, [0], [0, 2], 2, [3, 4, 3, 4]), False)

    def test_a_mask_with_an_even_number_of_fired_nodes(self):
        for mask in (0, 4, 7):
            self.assertIs(shows_cheapest(CHAIN, [0], [0, 1, 2], 1, [mask, 4]), mask in (4, 7))
            self.assertIs(shows_cheapest(CHAIN, [0], [0, 2], 1, [3, mask]), mask == 4)

    def test_all_lists_of_two_masks(self):
        source = random.Random(2)
        for graph in model.small_graphs(3, 10, 3, 6):
            for free in free_lists(source, graph, 3):
                for fired in fired_lists(graph[0]):
                    for cuts in itertools.product(range(2 ** graph[0]), repeat=2):
                        shown = shows_cheapest(graph, free, fired, 1, list(cuts))
                        self.assertIs(shown, model.is_cheapest_shown(graph, free, fired, 1, list(cuts)))

    def test_random_lists(self):
        source = random.Random(4)
        for graph in model.small_graphs(5, 40, 5, 7):
            for _ in range(60):
                free = source.choice(free_lists(source, graph, 3))
                fired = sorted(source.sample(range(graph[0]), source.randint(0, graph[0])))
                size = source.randrange(4)
                odd = [mask for mask in range(2 ** graph[0]) if len(set(model.members(mask)) & set(fired)) % 2]
                cuts = [source.choice(odd or [0]) for _ in range(2 * size)]
                given = list(free), list(fired), list(cuts)
                shown = shows_cheapest(graph, free, fired, size, cuts)
                self.assertIs(shown, model.is_cheapest_shown(graph, free, fired, size, cuts))
                self.assertEqual((free, fired, cuts), given)


class CheapestJoinTest(unittest.TestCase):

    def check(self, graph, free, fired):
        """Checks the answer, and returns the cost."""
        given = list(free), list(fired)
        answer = cheapest_join(graph, free, fired)
        self.assertEqual((free, fired), given)
        self.assertIs(type(answer), tuple)
        edges, cuts = answer
        self.assertEqual((type(edges), type(cuts)), (list, list))
        self.assertEqual(edges, sorted(set(edges)))
        self.assertEqual(model.odd_ends(graph, edges), fired)
        cost = model.cost_of(free, edges)
        self.assertTrue(all(type(mask) is int and 0 <= mask < 2 ** graph[0] for mask in cuts))
        self.assertTrue(model.is_cheapest_shown(graph, free, fired, cost, cuts))
        self.assertIs(shows_cheapest(graph, free, fired, cost, cuts), True)
        return cost

    def test_by_hand(self):
        self.assertEqual(self.check(CHAIN, [0], [0, 1]), 0)
        self.assertEqual(self.check(CHAIN, [0], [0, 2]), 1)
        self.assertEqual(self.check(CHAIN, [1], [0]), 2)
        self.assertEqual(self.check(CHAIN, [0, 1, 2], [0]), 0)
        self.assertEqual(self.check(CHAIN, [2], [2]), 0)
        self.assertEqual(self.check(CHAIN, [2], [1, 2]), 1)
        self.assertEqual(cheapest_join(CHAIN, [0], []), ([], []))
        self.assertEqual(cheapest_join((0, ()), [], []), ([], []))
        # Through the free edges it is longer and costs less.
        square = (4, ((0, 1, 0), (0, 2, 0), (1, 3, 0), (2, 3, 0)))
        self.assertEqual(cheapest_join(square, [1, 2, 3], [0, 1])[0], [1, 2, 3])
        self.assertEqual(cheapest_join(square, [1, 3], [0, 1])[0], [0])
        # A node that two open groups could join costs nothing: the boundary connects them.
        pair = (4, ((0, 1, 0), (0, 4, 0), (2, 3, 0), (3, 4, 0)))
        self.assertEqual(self.check(pair, [0, 1, 2, 3], [1, 2]), 0)
        self.assertEqual(self.check(pair, [0, 1, 3], [1, 2]), 1)

    def test_small_graphs_against_all_sets_of_edges(self):
        source = random.Random(6)
        for graph in model.small_graphs(7, 90, 5, 8):
            sets = [(tuple(model.odd_ends(graph, edges)), edges) for edges in model.edge_sets(graph)]
            for free in free_lists(source, graph, 3):
                costs = {}
                for fired, edges in sets:
                    costs[fired] = min(costs.get(fired, 100), model.cost_of(free, edges))
                for fired in fired_lists(graph[0]):
                    if tuple(fired) in costs:
                        self.assertEqual(self.check(graph, free, fired), costs[tuple(fired)])
                    else:
                        with self.assertRaises(NoJoin):
                            cheapest_join(graph, free, fired)

    def test_without_free_edges_it_is_a_least_join(self):
        for graph in model.small_graphs(8, 60, 6, 10) + [life_graph(3, 3, 2, "X")]:
            for fired in fired_lists(min(graph[0], 6)):
                try:
                    wanted = least_join(graph, fired)
                except NoJoin:
                    with self.assertRaises(NoJoin):
                        cheapest_join(graph, [], fired)
                else:
                    edges, cuts = cheapest_join(graph, [], fired)
                    self.assertEqual((edges, cuts), wanted)
                    self.assertIs(shows_least(graph, fired, len(edges), cuts), True)

    def test_no_join(self):
        with self.assertRaises(NoJoin):
            cheapest_join((1, ()), [], [0])
        with self.assertRaises(NoJoin):
            cheapest_join(PARTS, [3, 4], [3])
        with self.assertRaises(NoJoin):
            cheapest_join(PARTS, [6], [0, 6])
        self.assertEqual(self.check(PARTS, [6], [6, 7]), 0)
        with self.assertRaises(NoJoin):
            cheapest_join(PARTS, [], [8])

    def ladder(self, count):
        """Pairs of nodes (2 k, 2 k + 1), each with an edge between both, and one to the boundary at each first node."""
        edges = [(2 * k, 2 * k + 1, 0) for k in range(count)] + [(2 * k, 2 * count, 1) for k in range(count)]
        return (2 * count, tuple(sorted(edges)))

    def test_ten_and_eleven_odd_groups(self):
        for count in (10, 11, 12):
            graph = self.ladder(count)
            rungs = [k for k, edge in enumerate(graph[1]) if edge[1] < graph[0]]
            outs = [k for k, edge in enumerate(graph[1]) if edge[1] == graph[0]]
            firsts = [2 * k for k in range(count)]
            if count == 10:
                self.assertEqual(self.check(graph, [], firsts), 10)
                self.assertEqual(self.check(graph, rungs, firsts), 10)
            else:
                for free in ([], rungs, rungs[1:], outs[:count - 11]):
                    with self.assertRaises(TooMany):
                        cheapest_join(graph, free, firsts)
                # One group more is open, so ten are left.
                self.assertEqual(self.check(graph, outs[:count - 10], firsts), 10)
            # Groups with two fired nodes are not odd, however many there are.
            self.assertEqual(self.check(graph, rungs, list(range(2 * count))), 0)
            self.assertEqual(self.check(graph, outs, firsts), 0)

    def test_too_many_comes_ahead_of_no_join(self):
        graph = (12, ((0, 1, 0),))
        with self.assertRaises(TooMany):
            cheapest_join(graph, [], list(range(11)))
        with self.assertRaises(NoJoin):
            cheapest_join(graph, [], list(range(10)))
        with self.assertRaises(NoJoin):
            cheapest_join(graph, [0], list(range(11)))

    def test_lives_of_patches(self):
        source = random.Random(9)
        for size in ((3, 3, 2), (5, 5, 2), (4, 6, 3)):
            ops = life_ops(*size)
            for letter in "XZ":
                graph = life_graph(*size, letter)
                for count in (0, 3, 10, 40, len(ops)):
                    erasures = sorted(source.sample(range(len(ops)), count))
                    free = erased_edges(*size, letter, erasures)
                    for many in (0, 1, 4, 10):
                        cost = self.check(graph, free, sorted(source.sample(range(graph[0]), many)))
                        if count == len(ops):
                            self.assertEqual(cost, 0)

    def test_the_largest_life(self):
        source = random.Random(10)
        start = time.monotonic()
        graph = life_graph(9, 9, 10, "X")
        free = erased_edges(9, 9, 10, "X", list(range(0, 1000, 7)))
        self.check(graph, free, sorted(source.sample(range(graph[0]), 10)))
        self.assertLess(time.monotonic() - start, 10)


class DecodedWithTest(unittest.TestCase):

    def check(self, memory, record, erasures):
        """What point 12.6 says of any answer."""
        given = [list(row) for row in record], list(erasures)
        decoding = decoded_with(memory, record, erasures)
        self.assertEqual((record, erasures), given)
        self.assertIsInstance(decoding, Decoding)
        letters = [corner[0] for corner in corners(memory.rows, memory.columns)]
        for letter in "XZ":
            graph = memory.graph(letter)
            fired = fired_nodes(memory.rows, memory.columns, record, letter)
            free = erased_edges(memory.rows, memory.columns, memory.rounds, letter, erasures)
            edges, cuts = decoding.edges(letter), decoding.cuts(letter)
            self.assertEqual(model.odd_ends(graph, edges), fired)
            self.assertTrue(model.is_cheapest_shown(graph, free, fired, model.cost_of(free, edges), cuts))
            self.assertEqual(decoding.flip(letter), model.flip_of(graph, edges))
            error = decoding.correction(letter)
            syndrome = [a ^ b for other, a, b in zip(letters, record[0], record[-1]) if other != letter]
            self.assertEqual(memory.code().syndrome(letter, error), syndrome)
            self.assertEqual(memory.code().logical_bits(letter, error), [decoding.flip(letter)])
        return decoding

    def test_without_erasures_it_is_decoded(self):
        source = random.Random(11)
        for size, most in (((2, 2, 1), 4), ((3, 3, 2), 4), ((5, 5, 2), 4), ((2, 5, 4), 4)):
            memory = Memory(*size)
            for _ in range(10):
                faults = model.random_faults(source, memory.ops(), source.randint(0, most))
                record = record_with(memory, random_signs(source, memory), faults)
                decoding, wanted = self.check(memory, record, []), memory.decoded(record)
                for letter in "XZ":
                    self.assertEqual(decoding.edges(letter), wanted.edges(letter))
                    self.assertEqual(decoding.cuts(letter), wanted.cuts(letter))
                    self.assertEqual(decoding.flip(letter), wanted.flip(letter))
                    self.assertEqual(decoding.correction(letter), wanted.correction(letter))

    def test_any_records_and_erasures(self):
        source = random.Random(12)
        for size in ((2, 2, 1), (3, 3, 1), (2, 4, 2), (3, 3, 3)):
            memory = Memory(*size)
            count = len(memory.ops())
            for _ in range(10):
                erasures = sorted(source.sample(range(count), source.randint(0, 12)))
                faults = model.random_faults(source, memory.ops(), 2)
                faults += [model.random_fault(source, memory.ops(), at) for at in erasures if source.randrange(2)]
                record = record_with(memory, random_signs(source, memory), faults)
                try:
                    self.check(memory, record, erasures)
                except TooMany:
                    fired = [len(fired_nodes(size[0], size[1], record, letter)) for letter in "XZ"]
                    self.assertGreater(max(fired), 10)

    def test_wrong_records(self):
        memory = Memory(3, 3, 1)
        quiet = [[0] * 8 for _ in range(3)]
        wrong = [[], quiet[1:], quiet + [[0] * 8], [quiet[0], [0] * 7, quiet[0]], [quiet[0], quiet[0], [0] * 9],
                 [[2] + [0] * 7, quiet[0], quiet[0]], [quiet[0], quiet[0], [0] * 7 + [-1]], [[], [], []]]
        for erasures in ([], [0, 5], list(range(len(memory.ops())))):
            self.check(memory, quiet, erasures)
            for record in wrong:
                with self.assertRaises(InvalidRecord):
                    decoded_with(memory, record, erasures)

    def test_too_many_odd_groups(self):
        memory = Memory(5, 5, 2)
        for letter in "XZ":
            checks = [k for k, corner in enumerate(corners(5, 5)) if corner[0] != letter]
            record = [[0] * 24 for _ in range(4)]
            for k in checks[:11]:
                record[2][k] = record[3][k] = 1
            with self.assertRaises(TooMany):
                decoded_with(memory, record, [])
            with self.assertRaises(InvalidRecord):
                decoded_with(memory, record[:3] + [record[3][:-1] + [2]], [])
            # If every operation is erased, all groups are open.
            decoding = self.check(memory, record, list(range(len(memory.ops()))))
            self.assertEqual(decoding.cuts(letter), [])

    def test_the_memory_stays(self):
        memory = Memory(3, 3, 1)
        decoded_with(memory, record_with(memory, [0] * 8, [(4, 16, 16)]), [4])
        self.assertEqual(memory.ops(), life_ops(3, 3, 1))
        self.assertEqual(memory.graph("X"), life_graph(3, 3, 1, "X"))


class GuaranteeTest(unittest.TestCase):
    """Point 12.7: states return for erasures and faults within the bound."""

    def faults_within(self, source, memory, erasures):
        """Any faults at the erasures, and as many others as both bounds allow."""
        ops = memory.ops()
        faults = []
        for at in erasures:
            faults += [model.random_fault(source, ops, at) for _ in range(source.randint(0, 3))]
        others = [at for at in range(len(ops)) if at not in erasures]
        for letter, size in (("X", memory.rows), ("Z", memory.columns)):
            for _ in range(max(0, (size - 1 - len(erasures)) // 2)):
                faults.append(source.choice(with_letters(ops, source.choice(others), letter)))
        source.shuffle(faults)
        return faults

    def check(self, source, memory, count):
        erasures = sorted(source.sample(range(len(memory.ops())), count))
        faults = self.faults_within(source, memory, erasures)
        decoding = decoded_with(memory, record_with(memory, random_signs(source, memory), faults), erasures)
        errors = final_errors(memory, faults)
        for letter, size in (("X", memory.rows), ("Z", memory.columns)):
            if count < size:
                error = errors[letter] ^ decoding.correction(letter)
                self.assertTrue(memory.code().is_trivial(letter, error), (faults, erasures))

    def test_errors_are_trivial(self):
        source = random.Random(13)
        for size, times in (((3, 3, 2), 25), ((4, 4, 2), 15), ((5, 5, 2), 12), ((6, 7, 1), 6), ((9, 9, 2), 3)):
            memory = Memory(*size)
            for count in range(min(size[:2])):
                for _ in range(times):
                    self.check(source, memory, count)

    def test_each_pair_of_erasures_of_a_kind(self):
        """With 3 rows two erasures are bearable, also at the two sides of a qubit."""
        source = random.Random(14)
        memory = Memory(3, 3, 1)
        ops = memory.ops()
        code = memory.code()
        for first in range(len(ops)):
            second = source.choice([at for at in range(len(ops)) if at != first])
            erasures = sorted([first, second])
            for letters in ("X", "Z", "XZ"):
                faults = [source.choice(with_letters(ops, at, letters)) for at in erasures]
                decoding = decoded_with(memory, record_with(memory, [0] * 8, faults), erasures)
                for letter, error in final_errors(memory, faults).items():
                    self.assertTrue(code.is_trivial(letter, error ^ decoding.correction(letter)))

    def test_one_letter_within_its_bound(self):
        source = random.Random(15)
        memory = Memory(5, 2, 1)
        for _ in range(30):
            self.check(source, memory, 4)
        memory = Memory(2, 4, 2)
        for _ in range(30):
            self.check(source, memory, 3)

    def test_the_greatest_sizes(self):
        source = random.Random(16)
        memory = Memory(12, 12, 1)
        for count in (0, 1, 4, 11):
            self.check(source, memory, count)

    def test_stored_states_return(self):
        source = random.Random(17)
        for size, count in (((3, 3, 2), 2), ((3, 3, 2), 0), ((4, 5, 1), 3), ((5, 5, 1), 2)):
            memory = Memory(*size)
            letters = [corner[0] for corner in corners(*size[:2])]
            length = len(letters)
            for text in ("+X", "-Y", "+Z"):
                signs = random_signs(source, memory)
                data = memory.code().encoded([read_pauli(text)], signs)
                state = joined_state(data, State(length))
                erasures = sorted(source.sample(range(len(memory.ops())), count))
                faults = self.faults_within(source, memory, erasures)
                outcomes = run_state(state, memory.ops(), faults, model.random_bits(source, 30))
                rows = [outcomes[t * length:(t + 1) * length] for t in range(memory.rounds)]
                first = model.in_order(letters, signs)
                last = record_with(memory, first, faults)[-1]
                decoding = decoded_with(memory, [first] + rows + [last], erasures)
                state.strike((0, decoding.correction("X"), decoding.correction("Z")))
                for p in data.stabilizers():
                    self.assertEqual(state.expectation(p), 1)


if __name__ == "__main__":
    unittest.main()
