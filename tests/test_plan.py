"""Part 14: plans."""

import random
import unittest

from bastion.circuit import life_ops
from bastion.errors import InvalidSize, NoJoin, NoSolution, NotAGraph, SizeMismatch, TooMany
from bastion.faults import run_state, simple_faults
from bastion.graph import life_graph
from bastion.joins import least_join
from bastion.patch import corners, patch
from bastion.pauli import read_pauli
from bastion.plan import Plan, life_plan
from bastion.state import State, joined_state
from tests import model
from tests.test_memory import with_letters

OTHER = {"X": "Z", "Z": "X"}


def repetition(count, rounds):
    """A repetition code: helpers behind the data qubits read Z Z of neighbours. The observable is Z of qubit 0."""
    ops = []
    for _ in range(rounds):
        ops += [("wait", q) for q in range(count)]
        for k in range(count - 1):
            ops += [("zero", count + k), ("cx", k, count + k), ("cx", k + 1, count + k), ("read_z", count + k)]
    ends = [(0, 3 << k) for k in range(count - 1)] + [(0, 1)]
    detectors = []
    for t in range(rounds + 1):
        for k in range(count - 1):
            number = t * (count - 1) + k
            detectors.append(("X", [number - count + 1, number] if t else [number], 0))
    return Plan(ops, ends, detectors, [("X", [(rounds + 1) * (count - 1)])])


def line(count, pairs, chosen):
    """A plan with one read qubit for each reading; pairs tells the detectors."""
    ops = [op for q in range(count) for op in (("zero", q), ("read_z", q))]
    return Plan(ops, [], [("X", numbers, 0) for numbers in pairs], [("X", chosen)])


def all_flips(ops, ends, faults):
    """Point 14.2, from the frame of the model."""
    flips, x, z = model.frame(ops, faults)
    return flips + [model.odd(x & end_z) ^ model.odd(z & end_x) for end_x, end_z in ends]


def random_lists(source, width, count):
    """Operations, ends, detectors and observables that have nothing to do with each other."""
    ops = model.random_ops(source, width, count)
    ends = [(source.randrange(2 ** width), source.randrange(2 ** width)) for _ in range(source.randrange(4))]
    readings = sum(op[0].startswith("read") for op in ops) + len(ends)
    some = lambda: sorted(source.sample(range(readings), source.randint(0, min(readings, 3))))
    detectors = [(source.choice("XZ"), some(), source.randrange(2)) for _ in range(source.randrange(8))]
    observables = [(source.choice("XZ"), some()) for _ in range(source.randint(1, 3))]
    return ops, ends, detectors, observables, readings


def model_graph(ops, ends, detectors, observable):
    """The graph of a plan from the runs of all single faults; None if it is none."""
    letter, chosen = observable
    nodes = [numbers for other, numbers, _ in detectors if other == letter]
    edges = set()
    for kind in "XZ":
        for fault in simple_faults(ops, kind):
            flips = all_flips(ops, ends, [fault])
            fired = [node for node, numbers in enumerate(nodes) if sum(flips[k] for k in numbers) % 2]
            flip = sum(flips[k] for k in chosen) % 2
            if kind != letter:
                if fired or flip:
                    return None
            elif len(fired) > 2 or (flip and not fired):
                return None
            elif fired:
                edges.add((fired[0], fired[1] if len(fired) == 2 else len(nodes), flip))
    return (len(nodes), tuple(sorted(edges)))


class ListsTest(unittest.TestCase):

    def lists(self):
        ops = [("zero", 0), ("wait", 0), ("cx", 0, 1), ("read_z", 1), ("read_x", 0)]
        return ops, [(1, 0), (0, 3)], [("X", [0, 3], 1), ("Z", [1], 0)], [("Z", [1, 2]), ("X", [])]

    def test_the_lists_are_copies(self):
        given = self.lists()
        plan = Plan(*given)
        for inner in [given[2][0][1], given[2][1][1], given[3][0][1], given[3][1][1], *given]:
            inner.clear()
        self.assertEqual((plan.ops(), plan.ends(), plan.detectors(), plan.observables()), self.lists())

    def test_the_results_are_new_lists(self):
        plan = Plan(*self.lists())
        for call in (plan.ops, plan.ends, plan.detectors, plan.observables):
            result = call()
            self.assertIs(type(result), list)
            for item in result:
                self.assertIs(type(item), tuple)
                for inner in item:
                    if isinstance(inner, list):
                        inner.append(7)
            result.clear()
        self.assertEqual((plan.ops(), plan.ends(), plan.detectors(), plan.observables()), self.lists())

    def test_the_arguments_stay(self):
        given = self.lists()
        plan = Plan(*given)
        bits, faults = [0, 1, 1, 0], [(1, 1, 0)]
        plan.flips(faults)
        plan.fired(bits, "X")
        plan.value(bits, 0)
        self.assertEqual((given, bits, faults), (self.lists(), [0, 1, 1, 0], [(1, 1, 0)]))

    def test_readings(self):
        self.assertEqual(Plan(*self.lists()).readings(), 4)
        self.assertEqual(Plan([], [], [], []).readings(), 0)
        self.assertEqual(Plan([("read_x", 0)] * 3, [], [], []).readings(), 3)
        self.assertEqual(Plan([("wait", 0)], [(1, 1)] * 2, [], []).readings(), 2)


class FlipsAndValuesTest(unittest.TestCase):

    def test_examples(self):
        plan = Plan([("zero", 0), ("wait", 0), ("read_z", 0)], [], [("X", [0], 0)], [])
        self.assertEqual(plan.flips([(1, 1, 0)]), [1])
        self.assertEqual(plan.fired([1], "X"), [0])

    def test_by_hand(self):
        plan = Plan([("wait", 0), ("read_z", 0), ("wait", 1)], [(1, 0), (0, 1), (3, 3), (0, 0)],
                    [("X", [0], 1), ("Z", [1], 0), ("X", [0, 2], 0), ("X", [], 1), ("X", [], 0)],
                    [("X", [0, 2]), ("Z", [])])
        self.assertEqual(plan.flips([]), [0] * 5)
        self.assertEqual(plan.flips([(0, 1, 0)]), [1, 0, 1, 1, 0])
        self.assertEqual(plan.flips([(0, 0, 1)]), [0, 1, 0, 1, 0])
        self.assertEqual(plan.flips([(0, 1, 1)]), [1, 1, 1, 0, 0])
        self.assertEqual(plan.flips([(1, 1, 0), (2, 2, 0)]), [1, 0, 1, 0, 0])
        self.assertEqual(plan.fired([0, 0, 0, 0, 0], "X"), [0, 2])
        self.assertEqual(plan.fired([1, 0, 0, 0, 0], "X"), [1, 2])
        self.assertEqual(plan.fired([1, 1, 1, 0, 0], "X"), [2])
        self.assertEqual(plan.fired([1, 1, 1, 0, 0], "Z"), [0])
        self.assertEqual(plan.fired([1, 0, 1, 0, 0], "Z"), [])
        self.assertEqual([plan.value([a, 0, b, 0, 0], 0) for a in (0, 1) for b in (0, 1)], [0, 1, 1, 0])
        self.assertEqual(plan.value([1] * 5, 1), 0)

    def test_against_the_frame(self):
        source = random.Random(1)
        for _ in range(60):
            ops, ends, detectors, observables, readings = random_lists(source, 4, source.randint(1, 30))
            plan = Plan(ops, ends, detectors, observables)
            self.assertEqual(plan.readings(), readings)
            for _ in range(4):
                faults = model.random_faults(source, ops, source.randint(0, 4))
                flips = plan.flips(faults)
                self.assertEqual(flips, all_flips(ops, ends, faults))
                self.assertIs(type(flips), list)
                bits = model.random_bits(source, readings)
                struck = [bit ^ flip for bit, flip in zip(bits, flips)]
                for letter in "XZ":
                    nodes = [(numbers, due) for other, numbers, due in detectors if other == letter]
                    wanted = [node for node, (numbers, due) in enumerate(nodes)
                              if sum(struck[k] for k in numbers) % 2 != due]
                    self.assertEqual(plan.fired(struck, letter), wanted)
                for k, (_, numbers) in enumerate(observables):
                    self.assertEqual(plan.value(struck, k), sum(struck[number] for number in numbers) % 2)


class GraphTest(unittest.TestCase):

    def check(self, lists):
        """Compares all graphs of a plan with those of the single faults, and returns how many are graphs."""
        plan = Plan(*lists)
        many = 0
        for k, observable in enumerate(lists[3]):
            wanted = model_graph(*lists[:3], observable)
            if wanted is None:
                for _ in range(2):
                    with self.assertRaises(NotAGraph):
                        plan.graph(k)
                with self.assertRaises(NotAGraph):
                    plan.distance(k)
            else:
                self.assertEqual(plan.graph(k), wanted)
                self.assertEqual(plan.graph(k), wanted)
                many += 1
        return many

    def test_random_plans(self):
        source = random.Random(2)
        many = 0
        for _ in range(400):
            width = source.randint(2, 3)
            many += self.check(random_lists(source, width, source.randint(1, 9))[:4])
        self.assertGreater(many, 60)

    def test_plans_that_make_sense(self):
        for count, rounds in ((2, 1), (3, 1), (3, 2), (4, 3)):
            plan = repetition(count, rounds)
            self.assertEqual(self.check((plan.ops(), plan.ends(), plan.detectors(), plan.observables())), 1)
        for size in ((2, 2, 1), (2, 3, 1), (3, 3, 2)):
            plan = life_plan(*size, [0] * (size[0] * size[1] - 1))
            self.assertEqual(self.check((plan.ops(), plan.ends(), plan.detectors(), plan.observables())), 2)

    def test_only_detectors_of_the_letter_are_nodes(self):
        ops = [("zero", 0), ("plus", 1), ("read_z", 0), ("read_x", 1)]
        detectors = [("Z", [1], 0), ("X", [0], 0), ("Z", [], 1), ("Z", [1], 1)]
        plan = Plan(ops, [], detectors, [("X", [0]), ("Z", [1]), ("X", []), ("Z", [])])
        self.assertEqual(plan.graph(0), (1, ((0, 1, 1),)))
        self.assertEqual(plan.graph(1), (3, ((0, 2, 1),)))
        self.assertEqual(plan.graph(2), (1, ((0, 1, 0),)))
        self.assertEqual(plan.graph(3), (3, ((0, 2, 0),)))

    def test_no_nodes(self):
        self.assertEqual(Plan([], [], [], [("X", [])]).graph(0), (0, ()))
        self.assertEqual(Plan([("wait", 0)], [], [], [("Z", [])]).graph(0), (0, ()))

    def test_more_than_two_nodes(self):
        ops = [("zero", 0), ("read_z", 0)]
        for many in (1, 2, 3, 4):
            plan = Plan(ops, [], [("X", [0], 0)] * many, [("X", [])])
            if many < 3:
                self.assertEqual(plan.graph(0), (many, ((0, 1, 0),)))
            else:
                with self.assertRaises(NotAGraph):
                    plan.graph(0)

    def test_no_node_and_the_observable_is_inverted(self):
        with self.assertRaises(NotAGraph):
            Plan([("zero", 0), ("read_z", 0)], [], [], [("X", [0])]).graph(0)
        with self.assertRaises(NotAGraph):
            Plan([("wait", 0)], [(0, 1)], [], [("X", [0])]).graph(0)
        # If it is inverted together with a node, all is well.
        self.assertEqual(Plan([("wait", 0)], [(0, 1)], [("X", [0], 0)], [("X", [0])]).graph(0), (1, ((0, 1, 1),)))

    def test_the_other_letter_fires_a_node(self):
        with self.assertRaises(NotAGraph):
            Plan([("read_x", 0)], [], [("X", [0], 0)], [("X", [])]).graph(0)
        with self.assertRaises(NotAGraph):
            Plan([("read_z", 0)], [], [("Z", [0], 0)], [("Z", [])]).graph(0)
        with self.assertRaises(NotAGraph):
            Plan([("wait", 0)], [(1, 1)], [("X", [0], 0)], [("X", [])]).graph(0)
        # A node of the other letter does not matter.
        plan = Plan([("read_x", 0)], [], [("X", [0], 0)], [("X", []), ("Z", [])])
        self.assertEqual(plan.graph(1), (0, ()))

    def test_the_other_letter_inverts_the_observable(self):
        with self.assertRaises(NotAGraph):
            Plan([("read_x", 0)], [], [], [("X", [0])]).graph(0)
        with self.assertRaises(NotAGraph):
            Plan([("read_x", 0)], [], [("Z", [0], 0)], [("X", [0])]).graph(0)
        with self.assertRaises(NotAGraph):
            Plan([("wait", 0)], [(1, 0)], [], [("X", [0])]).graph(0)

    def test_distance(self):
        for count, rounds in ((2, 1), (3, 1), (3, 3), (5, 2)):
            self.assertEqual(repetition(count, rounds).distance(0), count)
        for plan in (Plan([], [], [], [("X", [])]), line(2, [[0], [0, 1]], []), line(2, [[0], [1]], [0])):
            with self.assertRaises(NoSolution):
                plan.distance(0)
        # Two qubits that fire the same node, of which one inverts the observable.
        self.assertEqual(line(2, [[0, 1]], [0]).distance(0), 2)


class DecodedTest(unittest.TestCase):

    def check(self, plan, bits, k):
        given = list(bits)
        answer = plan.decoded(bits, k)
        self.assertEqual(bits, given)
        self.assertIs(type(answer), tuple)
        value, edges, cuts = answer
        self.assertEqual((type(value), type(edges), type(cuts)), (int, list, list))
        graph = plan.graph(k)
        fired = plan.fired(bits, plan.observables()[k][0])
        self.assertEqual(model.odd_ends(graph, edges), fired)
        self.assertEqual(len(edges), len(least_join(graph, fired)[0]))
        self.assertTrue(model.is_least_shown(graph, fired, len(edges), cuts))
        self.assertEqual(value, plan.value(bits, k) ^ model.flip_of(graph, edges))
        return value

    def test_any_bits(self):
        source = random.Random(3)
        plans = [repetition(3, 2), repetition(4, 1), life_plan(2, 2, 1, [0, 1, 0]), life_plan(3, 3, 2, [1] * 8)]
        for plan in plans:
            for k in range(len(plan.observables())):
                for _ in range(30):
                    bits = model.random_bits(source, plan.readings())
                    if len(plan.fired(bits, plan.observables()[k][0])) <= 10:
                        self.check(plan, bits, k)

    def test_bits_of_another_size(self):
        plan = repetition(3, 1)
        right = [0] * plan.readings()
        self.check(plan, right, 0)
        for bits in ([], right[1:], right + [0], right * 2, right[:-1] + [2], [-1] + right[1:]):
            with self.assertRaises(SizeMismatch):
                plan.decoded(bits, 0)

    def test_not_a_graph(self):
        ops = [("zero", q) for q in range(12)] + [("read_x", q) for q in range(12)]
        plan = Plan(ops, [], [("X", [q], 0) for q in range(12)], [("X", [])])
        # Twelve nodes are fired, and no join could join them.
        for bits in ([0] * 12, [1] * 12):
            with self.assertRaises(NotAGraph):
                plan.decoded(bits, 0)
        for bits in ([0] * 11, [2] * 12):
            with self.assertRaises(SizeMismatch):
                plan.decoded(bits, 0)

    def test_too_many(self):
        plan = line(12, [[q] for q in range(12)], [])
        self.assertEqual(self.check(plan, [1] * 10 + [0] * 2, 0), 0)
        for bits in ([1] * 11 + [0], [1] * 12):
            with self.assertRaises(TooMany):
                plan.decoded(bits, 0)

    def test_no_join(self):
        # No fault fires one node alone.
        plan = line(1, [[0], [0]], [])
        self.check(plan, [1], 0)
        single = Plan([("zero", 0), ("read_z", 0)], [], [("X", [0], 0), ("X", [0], 1)], [("X", [])])
        for bits in ([0], [1]):
            with self.assertRaises(NoJoin):
                single.decoded(bits, 0)
        unreached = Plan([("wait", 0)], [], [("X", [], 1)] * 11, [("X", [])])
        with self.assertRaises(TooMany):
            unreached.decoded([], 0)
        with self.assertRaises(NoJoin):
            Plan([("wait", 0)], [], [("X", [], 1)] * 10, [("X", [])]).decoded([], 0)

    def test_a_repetition_code_keeps_its_value(self):
        source = random.Random(4)
        for count, rounds in ((3, 2), (5, 3), (7, 2), (11, 1)):
            plan = repetition(count, rounds)
            ops = plan.ops()
            most = min((count - 1) // 2, 5)
            for value in (0, 1):
                bits = [0] * (plan.readings() - 1) + [value]
                self.assertEqual(plan.fired(bits, "X"), [])
                for _ in range(15):
                    faults = [source.choice(with_letters(ops, source.randrange(len(ops)), source.choice(["X", "XZ"])))
                              for _ in range(most)]
                    faults += [source.choice(with_letters(ops, source.randrange(len(ops)), "Z")) for _ in range(9)]
                    struck = [bit ^ flip for bit, flip in zip(bits, plan.flips(faults))]
                    self.assertEqual(self.check(plan, struck, 0), value)


class LifePlanTest(unittest.TestCase):

    def model_lists(self, rows, columns, rounds, signs):
        """Point 14.3, straight from its words."""
        listed = corners(rows, columns)
        ends = []
        for letter, i, j in listed:
            places = [(r, c) for r in (i - 1, i) for c in (j - 1, j) if 0 <= r < rows and 0 <= c < columns]
            mask = sum(2 ** (r * columns + c) for r, c in places)
            ends.append((mask, 0) if letter == "X" else (0, mask))
        detectors = []
        for t in range(1, rounds + 2):
            for k, (letter, _, _) in enumerate(listed):
                row = [(s - 1) * len(listed) + k for s in (t - 1, t) if s >= 1]
                detectors.append((OTHER[letter], row, signs[k] if t == 1 else 0))
        z_logical, x_logical = sum(2 ** c for c in range(columns)), sum(2 ** (r * columns) for r in range(rows))
        first = (rounds + 1) * len(listed)
        ends += [(0, z_logical), (x_logical, 0)]
        return life_ops(rows, columns, rounds), ends, detectors, [("X", [first]), ("Z", [first + 1])]

    def test_the_lists(self):
        source = random.Random(5)
        for size in ((2, 2, 1), (2, 2, 3), (2, 3, 2), (3, 2, 1), (3, 3, 2), (4, 3, 1), (2, 5, 10)):
            signs = model.random_bits(source, size[0] * size[1] - 1)
            given = list(signs)
            plan = life_plan(*size, signs)
            self.assertIsInstance(plan, Plan)
            self.assertEqual(signs, given)
            self.assertEqual((plan.ops(), plan.ends(), plan.detectors(), plan.observables()),
                             self.model_lists(*size, signs))

    def test_the_graphs(self):
        for size in ((2, 2, 1), (2, 3, 2), (3, 2, 3), (3, 3, 1), (4, 5, 2), (2, 2, 10)):
            plan = life_plan(*size, [0] * (size[0] * size[1] - 1))
            for k, letter in enumerate("XZ"):
                self.assertEqual(plan.graph(k), life_graph(*size, letter))
                self.assertEqual(plan.distance(k), size[k])

    def test_what_is_refused(self):
        for size in ((1, 2, 1), (2, 1, 1), (2, 2, 0), (0, 0, 0), (3, 3, -1), (1, 5, 2)):
            for signs in ([], [0], [0, 0, 0], [0] * 8):
                with self.assertRaises(InvalidSize):
                    life_plan(*size, signs)
        for size in ((2, 2, 1), (3, 3, 2)):
            count = size[0] * size[1] - 1
            for signs in ([], [0] * (count - 1), [0] * (count + 1), [2] + [0] * (count - 1), [0] * (count - 1) + [-1]):
                with self.assertRaises(SizeMismatch):
                    life_plan(*size, signs)

    def test_values_are_kept_for_bearable_faults(self):
        source = random.Random(6)
        for size, times in (((3, 3, 2), 20), ((5, 3, 1), 15), ((3, 5, 2), 15), ((5, 5, 2), 10), ((11, 2, 1), 4)):
            rows, columns, rounds = size
            signs = model.random_bits(source, rows * columns - 1)
            plan = life_plan(*size, signs)
            ops = plan.ops()
            for _ in range(times):
                values = model.random_bits(source, 2)
                bits = signs * (rounds + 1) + values
                self.assertEqual([plan.fired(bits, letter) for letter in "XZ"], [[], []])
                for k, (letter, most) in enumerate((("X", (rows - 1) // 2), ("Z", (columns - 1) // 2))):
                    faults = [source.choice(with_letters(ops, source.randrange(len(ops)),
                                                         source.choice([letter, "XZ"])))
                              for _ in range(min(most, 5))]
                    # Any number of faults of the other letter changes nothing.
                    faults += [source.choice(with_letters(ops, source.randrange(len(ops)), OTHER[letter]))
                               for _ in range(7)]
                    source.shuffle(faults)
                    struck = [bit ^ flip for bit, flip in zip(bits, plan.flips(faults))]
                    self.assertEqual(plan.decoded(struck, k)[0], values[k])

    def test_every_single_fault(self):
        signs = [0, 1, 0, 0, 1, 1, 0, 1]
        plan = life_plan(3, 3, 1, signs)
        bits = signs * 2 + [1, 0]
        for at in range(len(plan.ops())):
            for letters in ("X", "Z", "XZ"):
                for fault in with_letters(plan.ops(), at, letters):
                    struck = [bit ^ flip for bit, flip in zip(bits, plan.flips([fault]))]
                    self.assertEqual([plan.decoded(struck, k)[0] for k in (0, 1)], [1, 0])

    def test_against_states(self):
        """The readings of a life with faults, measured on a state, give the stored value."""
        source = random.Random(7)
        for size in ((3, 3, 2), (3, 5, 1), (5, 3, 1)):
            rows, columns, rounds = size
            code = patch(rows, columns)
            letters = [corner[0] for corner in corners(rows, columns)]
            for text, k in (("+Z", 0), ("-Z", 0), ("+X", 1), ("-X", 1)):
                signs = model.random_bits(source, len(letters))
                plan = life_plan(*size, model.in_order(letters, signs))
                state = joined_state(code.encoded([read_pauli(text)], signs), State(len(letters)))
                most = (size[k] - 1) // 2
                faults = [source.choice(with_letters(plan.ops(), source.randrange(len(plan.ops())), "XZ"[k]))
                          for _ in range(most)]
                bits = run_state(state, plan.ops(), faults, model.random_bits(source, 50))
                ends = plan.ends()
                for x, z in ends[:-2] + [ends[-2 + k]]:
                    bits.append(state.measure((0, x, z), 0)[0])
                bits = bits[:-1] + ([bits[-1], 0] if k == 0 else [0, bits[-1]])
                self.assertEqual(plan.decoded(bits, k)[0], int(text[0] == "-"))


if __name__ == "__main__":
    unittest.main()
