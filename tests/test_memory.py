"""Part 9: memories and the decoding of their records."""

import random
import time
import unittest

from bastion.circuit import life_ops
from bastion.clusters import cluster_join, grow
from bastion.errors import InvalidRecord, InvalidSize, TooMany
from bastion.faults import run_frame, run_state, simple_faults
from bastion.graph import life_graph
from bastion.joins import least_join
from bastion.memory import Decoding, Memory
from bastion.patch import corners, patch
from bastion.pauli import read_pauli
from bastion.record import fired_nodes, record_of
from bastion.state import State, joined_state
from tests import model

SIZES = [(2, 2, 1), (2, 3, 2), (3, 2, 1), (3, 3, 1), (3, 3, 3), (3, 5, 2), (5, 3, 2), (4, 4, 2), (5, 5, 2), (2, 5, 4)]


def with_letters(ops, at, letters):
    """The faults of an operation that have exactly the given letters."""
    masks = [mask for _, mask, _ in simple_faults(ops[at:at + 1], "X")]
    x_masks = masks if "X" in letters else [0]
    z_masks = masks if "Z" in letters else [0]
    return [(at, x, z) for x in x_masks for z in z_masks]


def some_faults(source, ops, x_count, z_count):
    """Faults at any operations, of which the given numbers have a part of X and a part of Z; some have both."""
    both = source.randint(0, min(x_count, z_count))
    kinds = ["XZ"] * both + ["X"] * (x_count - both) + ["Z"] * (z_count - both)
    chosen = [source.choice(with_letters(ops, source.randrange(len(ops)), letters)) for letters in kinds]
    source.shuffle(chosen)
    return chosen


def bearable_faults(source, memory):
    return some_faults(source, memory.ops(), memory.bearable("X"), memory.bearable("Z"))


def random_signs(source, memory):
    return model.random_bits(source, memory.rows * memory.columns - 1)


def final_errors(memory, faults):
    """The masks of the final frame, restricted to the data qubits."""
    _, x, z = run_frame(memory.ops(), faults)
    data = 2 ** (memory.rows * memory.columns) - 1
    return {"X": x & data, "Z": z & data}


def record_with(memory, signs, faults):
    return record_of(memory.rows, memory.columns, memory.rounds, signs, faults)


class MemoryTest(unittest.TestCase):

    def test_sizes_that_are_refused(self):
        for size in ((1, 2, 1), (2, 1, 1), (2, 2, 0), (1, 1, 1), (0, 3, 1), (3, 0, 1), (-1, 3, 2), (3, -2, 2),
                     (3, 3, -1), (1, 5, 0), (5, 1, 0), (0, 0, 0)):
            with self.assertRaises(InvalidSize):
                Memory(*size)

    def test_attributes(self):
        for size in SIZES:
            memory = Memory(*size)
            self.assertEqual((memory.rows, memory.columns, memory.rounds), size)

    def test_code_ops_and_graph(self):
        for rows, columns, rounds in SIZES:
            memory = Memory(rows, columns, rounds)
            code, wanted = memory.code(), patch(rows, columns)
            self.assertEqual((code.width, code.x_checks, code.z_checks, code.x_logicals, code.z_logicals),
                             (wanted.width, wanted.x_checks, wanted.z_checks, wanted.x_logicals, wanted.z_logicals))
            self.assertEqual(memory.ops(), life_ops(rows, columns, rounds))
            for letter in "XZ":
                self.assertEqual(memory.graph(letter), life_graph(rows, columns, rounds, letter))

    def test_bearable(self):
        self.assertEqual(Memory(3, 3, 2).bearable("X"), 1)
        for rows, columns, rounds in SIZES + [(7, 2, 1), (2, 8, 1), (9, 7, 3), (6, 5, 1)]:
            memory = Memory(rows, columns, rounds)
            self.assertEqual(memory.bearable("X"), (rows - 1) // 2)
            self.assertEqual(memory.bearable("Z"), (columns - 1) // 2)

    def test_it_never_changes(self):
        memory = Memory(2, 3, 1)
        memory.ops().clear()
        memory.code().x_checks.clear()
        record = record_with(memory, [0] * 5, [(0, 1, 0)])
        memory.decoded(record)
        memory.quick(record)
        self.assertEqual(memory.ops(), life_ops(2, 3, 1))
        self.assertEqual(memory.code().x_checks, patch(2, 3).x_checks)
        self.assertEqual(memory.graph("X"), life_graph(2, 3, 1, "X"))


class WrongRecordsTest(unittest.TestCase):

    def wrong_records(self, rows, length):
        """Records that differ from a right one in one place, and some more."""
        quiet = [[0] * length for _ in range(rows)]
        yield []
        yield quiet[1:]
        yield quiet + [[0] * length]
        yield [[] for _ in range(rows)]
        for t in range(rows):
            for row in ([0] * (length - 1), [0] * (length + 1), [], [0] * (2 * length)):
                yield quiet[:t] + [row] + quiet[t + 1:]
            for k in (0, length // 2, length - 1):
                for value in (2, -1, 3, 10):
                    row = [0] * length
                    row[k] = value
                    yield quiet[:t] + [row] + quiet[t + 1:]

    def test_decoded_and_quick(self):
        for rows, columns, rounds in ((2, 2, 1), (2, 3, 2), (3, 3, 2)):
            memory = Memory(rows, columns, rounds)
            length = rows * columns - 1
            self.assertEqual(memory.decoded([[0] * length] * (rounds + 2)).edges("X"), [])
            for record in self.wrong_records(rounds + 2, length):
                for call in (memory.decoded, memory.quick):
                    with self.assertRaises(InvalidRecord):
                        call(record)

    def test_read(self):
        for rows, columns, rounds in ((2, 2, 1), (3, 3, 2)):
            memory = Memory(rows, columns, rounds)
            count = rows * columns
            bits, record = [0] * count, [[0] * (count - 1)] * (rounds + 1)
            for letter in "XZ":
                self.assertEqual(memory.read(letter, record, bits), 0)
                for wrong in self.wrong_records(rounds + 1, count - 1):
                    with self.assertRaises(InvalidRecord):
                        memory.read(letter, wrong, bits)
                others = [bits[:at] + [value] + bits[at + 1:] for at in (0, count - 1) for value in (2, -1)]
                for wrong in [[], bits[1:], bits + [0], bits * 2] + others:
                    with self.assertRaises(InvalidRecord):
                        memory.read(letter, record, wrong)

    def test_too_many_fired_nodes_for_one_letter(self):
        memory = Memory(5, 5, 2)
        for letter in "XZ":
            checks = [k for k, corner in enumerate(corners(5, 5)) if corner[0] != letter]
            for count in (10, 11, 12):
                record = [[0] * 24 for _ in range(4)]
                for row in record[2:]:
                    for k in checks[:count]:
                        row[k] = 1
                if count == 10:
                    self.assertEqual(len(fired_nodes(5, 5, record, letter)), 10)
                    self.assertEqual(memory.decoded(record).flip("ZX"["XZ".index(letter)]), 0)
                else:
                    with self.assertRaises(TooMany):
                        memory.decoded(record)
                self.assertIsInstance(memory.quick(record), Decoding)
                record[3][0] = 2
                with self.assertRaises(InvalidRecord):
                    memory.decoded(record)

    def test_too_many_fired_nodes_in_read(self):
        memory = Memory(5, 5, 2)
        z_checks = [k for k, corner in enumerate(corners(5, 5)) if corner[0] == "Z"]
        for count in (10, 11):
            record = [[0] * 24 for _ in range(3)]
            for k in z_checks[:count]:
                record[0][k] = 1
            self.assertIn(memory.read("X", record, [0] * 25), (0, 1))
            if count == 10:
                self.assertIn(memory.read("Z", record, [0] * 25), (0, 1))
            else:
                with self.assertRaises(TooMany):
                    memory.read("Z", record, [0] * 25)
                with self.assertRaises(InvalidRecord):
                    memory.read("Z", record, [0] * 24 + [2])
                with self.assertRaises(InvalidRecord):
                    memory.read("Z", record, [0] * 24)


class DecodingTest(unittest.TestCase):

    def check(self, memory, record, quick):
        """What points 9.2 and 9.5 say of any decoding."""
        given = [list(row) for row in record]
        decoding = memory.quick(record) if quick else memory.decoded(record)
        self.assertEqual(record, given)
        self.assertIsInstance(decoding, Decoding)
        for letter in "XZ":
            graph = memory.graph(letter)
            fired = fired_nodes(memory.rows, memory.columns, record, letter)
            edges, cuts = decoding.edges(letter), decoding.cuts(letter)
            self.assertEqual((type(edges), type(cuts)), (list, list))
            self.assertEqual(edges, sorted(set(edges)))
            self.assertEqual(model.odd_ends(graph, edges), fired)
            if quick:
                self.assertEqual(edges, cluster_join(graph, fired))
                self.assertEqual(cuts, grow(graph, fired)[1])
            else:
                self.assertEqual(len(edges), len(least_join(graph, fired)[0]))
                self.assertTrue(model.is_least_shown(graph, fired, len(edges), cuts))
            self.check_correction(memory, record, letter, decoding)
        return decoding

    def check_correction(self, memory, record, letter, decoding):
        flip, error = decoding.flip(letter), decoding.correction(letter)
        self.assertEqual((type(flip), type(error)), (int, int))
        self.assertEqual(flip, model.flip_of(memory.graph(letter), decoding.edges(letter)))
        self.assertTrue(0 <= error < 2 ** (memory.rows * memory.columns))
        letters = [corner[0] for corner in corners(memory.rows, memory.columns)]
        syndrome = [a ^ b for other, a, b in zip(letters, record[0], record[-1]) if other != letter]
        self.assertEqual(memory.code().syndrome(letter, error), syndrome)
        self.assertEqual(memory.code().logical_bits(letter, error), [flip])

    def test_example(self):
        memory = Memory(3, 3, 1)
        decoding = memory.decoded(record_of(3, 3, 1, [0] * 8, [(4, 16, 0)]))
        self.assertEqual(len(decoding.edges("X")), 1)
        self.assertEqual(decoding.edges("Z"), [])

    def test_no_faults(self):
        source = random.Random(1)
        for size in SIZES:
            memory = Memory(*size)
            record = record_with(memory, random_signs(source, memory), [])
            for quick in (False, True):
                decoding = self.check(memory, record, quick)
                for letter in "XZ":
                    self.assertEqual((decoding.edges(letter), decoding.cuts(letter)), ([], []))
                    self.assertEqual((decoding.flip(letter), decoding.correction(letter)), (0, 0))

    def test_few_and_many_faults(self):
        source = random.Random(2)
        for size in SIZES:
            memory = Memory(*size)
            for count in (1, 2, 3, 5, 8, 20):
                faults = model.random_faults(source, memory.ops(), count)
                record = record_with(memory, random_signs(source, memory), faults)
                self.check(memory, record, True)
                fired = [fired_nodes(size[0], size[1], record, letter) for letter in "XZ"]
                if max(len(nodes) for nodes in fired) <= 10:
                    self.check(memory, record, False)
                else:
                    with self.assertRaises(TooMany):
                        memory.decoded(record)

    def test_records_with_any_bits(self):
        source = random.Random(3)
        for size in ((2, 2, 1), (2, 3, 1), (3, 2, 2), (2, 2, 4), (3, 3, 1), (5, 5, 2), (2, 9, 3)):
            memory = Memory(*size)
            for _ in range(5):
                record = [random_signs(source, memory) for _ in range(memory.rounds + 2)]
                self.check(memory, record, True)
                fired = [fired_nodes(size[0], size[1], record, letter) for letter in "XZ"]
                if max(len(nodes) for nodes in fired) <= 10:
                    self.check(memory, record, False)

    def test_the_lists_are_new(self):
        memory = Memory(3, 3, 2)
        record = record_with(memory, [1] * 8, [(4, 16, 16)])
        for decoding in (memory.decoded(record), memory.quick(record)):
            for letter in "XZ":
                edges, cuts = decoding.edges(letter), decoding.cuts(letter)
                self.assertTrue(edges and cuts)
                kept = list(edges), list(cuts)
                edges.clear()
                cuts.append(0)
                self.assertEqual((decoding.edges(letter), decoding.cuts(letter)), kept)

    def test_a_decoding_does_not_follow_its_record(self):
        memory = Memory(3, 3, 1)
        record = record_with(memory, [0] * 8, [(4, 16, 16)])
        decoding = memory.decoded(record)
        before = [(decoding.edges(letter), decoding.flip(letter), decoding.correction(letter)) for letter in "XZ"]
        for row in record:
            row.clear()
        record.clear()
        after = [(decoding.edges(letter), decoding.flip(letter), decoding.correction(letter)) for letter in "XZ"]
        self.assertEqual(before, after)


class GuaranteeTest(unittest.TestCase):
    """Points 9.3 and 9.5: bearable faults leave only trivial errors behind the correction."""

    def check(self, memory, signs, faults, calls=("decoded", "quick")):
        record = record_with(memory, signs, faults)
        errors = final_errors(memory, faults)
        for call in calls:
            decoding = memory.decoded(record) if call == "decoded" else memory.quick(record)
            for letter in "XZ":
                error = errors[letter] ^ decoding.correction(letter)
                self.assertTrue(memory.code().is_trivial(letter, error), (faults, call))

    def test_every_single_fault(self):
        source = random.Random(4)
        for size in ((3, 3, 1), (3, 3, 2), (3, 4, 1), (4, 3, 1)):
            memory = Memory(*size)
            ops = memory.ops()
            for at in range(len(ops)):
                for letters in ("X", "Z", "XZ"):
                    for fault in with_letters(ops, at, letters):
                        self.check(memory, random_signs(source, memory), [fault])

    def test_one_letter_only_is_bearable(self):
        source = random.Random(5)
        for size, letter in (((3, 2, 2), "X"), ((2, 3, 2), "Z"), ((2, 4, 1), "Z")):
            memory = Memory(*size)
            self.assertEqual(memory.bearable("ZX"["XZ".index(letter)]), 0)
            for fault in simple_faults(memory.ops(), letter):
                self.check(memory, random_signs(source, memory), [fault])

    def test_as_many_faults_as_are_bearable(self):
        source = random.Random(6)
        for size, times in (((3, 3, 3), 60), ((3, 5, 2), 60), ((5, 3, 2), 60), ((5, 5, 2), 80), ((4, 4, 2), 30),
                            ((6, 5, 1), 30), ((7, 7, 2), 25), ((5, 7, 4), 15), ((9, 9, 2), 6), ((2, 9, 10), 6)):
            memory = Memory(*size)
            for _ in range(times):
                self.check(memory, random_signs(source, memory), bearable_faults(source, memory))

    def test_all_faults_at_one_place(self):
        """Faults at one operation and at its neighbours, which reach far when they are together."""
        source = random.Random(7)
        memory = Memory(5, 5, 2)
        ops = memory.ops()
        for at in range(0, len(ops) - 1, 7):
            faults = [source.choice(with_letters(ops, place, "XZ")) for place in (at, source.choice([at, at + 1]))]
            self.check(memory, random_signs(source, memory), faults)

    def test_12_rows_and_columns(self):
        source = random.Random(8)
        memory = Memory(12, 12, 3)
        self.assertEqual((memory.bearable("X"), memory.bearable("Z")), (5, 5))
        for _ in range(5):
            self.check(memory, random_signs(source, memory), bearable_faults(source, memory))

    def test_quick_bears_faults_that_fire_too_many_nodes(self):
        source = random.Random(9)
        memory = Memory(13, 14, 2)
        self.assertEqual((memory.bearable("X"), memory.bearable("Z")), (6, 6))
        for _ in range(5):
            self.check(memory, random_signs(source, memory), bearable_faults(source, memory), ("quick",))
        # Six faults, each of which fires two nodes that no other one fires.
        ops = memory.ops()
        apart = [ops.index(("wait", row * 14 + 6)) for row in (1, 3, 5, 7, 9, 11)]
        faults = [(at, 1 << ops[at][1], 0) for at in apart]
        self.assertEqual(len(fired_nodes(13, 14, record_with(memory, [0] * 181, faults), "X")), 12)
        with self.assertRaises(TooMany):
            memory.decoded(record_with(memory, [0] * 181, faults))
        self.check(memory, [0] * 181, faults, ("quick",))

    def test_the_largest_memory(self):
        source = random.Random(10)
        start = time.monotonic()
        memory = Memory(9, 9, 10)
        faults = bearable_faults(source, memory)
        self.check(memory, random_signs(source, memory), faults)
        self.assertLess(time.monotonic() - start, 20)


def stored(source, memory, text):
    """A stored logical state with random signs: its data qubits, and the signs in the order of the corners."""
    signs = random_signs(source, memory)
    letters = [corner[0] for corner in corners(memory.rows, memory.columns)]
    return memory.code().encoded([read_pauli(text)], signs), model.in_order(letters, signs)


def lived(source, memory, data, faults):
    """The state after a life, and the rows of its rounds."""
    length = memory.rows * memory.columns - 1
    state = joined_state(data, State(length))
    coins = model.random_bits(source, source.randrange(4 * length))
    outcomes = run_state(state, memory.ops(), faults, coins)
    return state, [outcomes[t * length:(t + 1) * length] for t in range(memory.rounds)]


class StoredStateTest(unittest.TestCase):
    """Stored states return: after the correction the data qubits have the group that they had."""

    def check(self, source, memory, faults, quick=False):
        text = source.choice(["+X", "-X", "+Y", "-Y", "+Z", "-Z"])
        data, signs = stored(source, memory, text)
        state, rows = lived(source, memory, data, faults)
        last = []
        for letter, i, j in corners(memory.rows, memory.columns):
            places = [(r, c) for r in (i - 1, i) for c in (j - 1, j)]
            mask = sum(2 ** (r * memory.columns + c) for r, c in places
                       if r in range(memory.rows) and c in range(memory.columns))
            outcome, chosen = state.measure((0, mask, 0) if letter == "X" else (0, 0, mask), 0)
            self.assertFalse(chosen)
            last.append(outcome)
        record = [signs] + rows + [last]
        self.assertEqual(record, record_with(memory, signs, faults))
        decoding = memory.quick(record) if quick else memory.decoded(record)
        state.strike((0, decoding.correction("X"), decoding.correction("Z")))
        for p in data.stabilizers():
            self.assertEqual(state.expectation(p), 1)

    def test_every_single_fault(self):
        source = random.Random(11)
        memory = Memory(3, 3, 1)
        ops = memory.ops()
        for at in range(len(ops)):
            for letters in ("X", "Z", "XZ"):
                self.check(source, memory, [source.choice(with_letters(ops, at, letters))], at % 2 == 0)

    def test_bearable_faults(self):
        source = random.Random(12)
        for size, times in (((3, 3, 3), 12), ((3, 5, 2), 12), ((5, 3, 2), 12), ((5, 5, 2), 10)):
            memory = Memory(*size)
            for count in range(times):
                self.check(source, memory, bearable_faults(source, memory), count % 2 == 0)

    def test_no_faults_on_the_smallest_patch(self):
        self.check(random.Random(13), Memory(2, 2, 1), [])


class ReadTest(unittest.TestCase):
    """Points 9.6 and 9.7."""

    def check(self, source, memory, letter, faults, wrong):
        """Stores a value, lets faults strike, measures all data qubits with wrong bits, and reads."""
        value = source.randrange(2)
        data, signs = stored(source, memory, "+-"[value] + letter)
        state, rows = lived(source, memory, data, faults)
        bits = []
        for q in range(memory.rows * memory.columns):
            outcome, _ = state.measure((0, 2 ** q, 0) if letter == "X" else (0, 0, 2 ** q), source.randrange(2))
            bits.append(outcome ^ (q in wrong))
        record = [signs] + rows
        given = [list(row) for row in record], list(bits)
        result = memory.read(letter, record, bits)
        self.assertIs(type(result), int)
        self.assertEqual(result, value)
        self.assertEqual((record, bits), given)

    def test_without_faults(self):
        source = random.Random(14)
        for size in ((2, 2, 1), (2, 3, 2), (3, 2, 1), (3, 3, 2)):
            for letter in "XZ":
                for _ in range(4):
                    self.check(source, Memory(*size), letter, [], [])

    def test_each_wrong_bit(self):
        source = random.Random(15)
        for size in ((3, 3, 1), (3, 4, 1), (4, 3, 1)):
            memory = Memory(*size)
            for letter in "XZ":
                for q in range(memory.rows * memory.columns):
                    self.check(source, memory, letter, [], [q])

    def test_each_single_fault(self):
        source = random.Random(16)
        memory = Memory(3, 3, 1)
        ops = memory.ops()
        for at in range(len(ops)):
            for letter, errors in (("Z", "X"), ("X", "Z")):
                for letters in (errors, "XZ"):
                    self.check(source, memory, letter, [source.choice(with_letters(ops, at, letters))], [])

    def test_faults_and_wrong_bits(self):
        source = random.Random(17)
        for size, times in (((5, 5, 2), 6), ((5, 3, 2), 8), ((3, 5, 1), 8), ((7, 2, 1), 6), ((2, 7, 1), 6)):
            memory = Memory(*size)
            for letter, errors in (("Z", "X"), ("X", "Z")):
                for _ in range(times):
                    most = memory.bearable(errors)
                    wrong = source.sample(range(memory.rows * memory.columns), source.randint(0, most))
                    counts = (most - len(wrong), 0) if errors == "X" else (0, most - len(wrong))
                    self.check(source, memory, letter, some_faults(source, memory.ops(), *counts), wrong)

    def test_any_number_of_faults_of_the_letter_itself(self):
        source = random.Random(18)
        for size in ((3, 3, 2), (4, 4, 2)):
            memory = Memory(*size)
            for letter, counts in (("Z", (1, 25)), ("X", (25, 1))):
                for _ in range(4):
                    self.check(source, memory, letter, some_faults(source, memory.ops(), *counts), [])

    def test_the_missing_row_by_hand(self):
        """The checks of 2 x 2: Z on 0 and 2, X on all, Z on 1 and 3. The Z logical is on 0 and 1, the X one on 0, 2."""
        memory = Memory(2, 2, 1)
        self.assertEqual(memory.read("Z", [[0, 0, 0], [0, 1, 0]], [1, 1, 1, 1]), 0)
        self.assertEqual(memory.read("Z", [[0, 0, 0], [0, 0, 0]], [1, 0, 1, 0]), 1)
        self.assertEqual(memory.read("Z", [[1, 0, 1], [1, 1, 1]], [1, 0, 0, 1]), 1)
        self.assertEqual(memory.read("Z", [[1, 0, 0], [1, 1, 0]], [0, 0, 1, 0]), 0)
        self.assertEqual(memory.read("X", [[1, 0, 0], [0, 0, 1]], [1, 0, 1, 0]), 0)
        self.assertEqual(memory.read("X", [[0, 1, 0], [1, 1, 1]], [0, 0, 1, 0]), 1)


if __name__ == "__main__":
    unittest.main()
