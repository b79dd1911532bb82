"""Part 6, points 6.3 to 6.8: faults, frames and runs, against models written without the package."""

import random
import time
import unittest

from bastion.circuit import life_ops, qubits_of, round_ops
from bastion.code import Code, joined_code
from bastion.faults import is_fault, run_frame, run_state, simple_effects, simple_faults
from bastion.patch import corners, patch
from bastion.pauli import negated, read_pauli
from bastion.state import State, joined_state
from tests import model

KINDS = ["wait", "zero", "plus", "read_z", "read_x"]
PATCHES = [(2, 2), (2, 3), (3, 2), (3, 3)]


def random_state(source, width):
    state = State(width)
    for _ in range(5 * width):
        qubit, other = source.sample(range(width), 2) if width > 1 else (0, 0)
        gates = [("H", qubit), ("S", qubit), ("X", qubit)]
        state.apply(source.choice(gates + [("CX", qubit, other)] * 2 if width > 1 else gates))
    return state


class IsFaultTest(unittest.TestCase):

    ops = [("wait", 0), ("zero", 1), ("plus", 2), ("cx", 0, 2), ("cx", 3, 1), ("read_z", 1), ("read_x", 3)]

    def test_faults_of_operations_of_every_kind(self):
        for at, op in enumerate(self.ops):
            for q in op[1:]:
                for x, z in ((1, 0), (0, 1), (1, 1)):
                    self.assertIs(is_fault(self.ops, (at, x << q, z << q)), True)

    def test_both_qubits_of_a_cx(self):
        for fault in ((3, 5, 0), (3, 0, 5), (3, 5, 5), (3, 4, 1), (3, 1, 4), (3, 5, 1), (4, 10, 2), (4, 8, 10)):
            self.assertIs(is_fault(self.ops, fault), True)

    def test_an_index_that_no_operation_has(self):
        for at in (-1, -2, -7, -8, 7, 8, 100):
            for masks in ((1, 0), (2, 0), (0, 8), (8, 8), (0, 2)):
                self.assertIs(is_fault(self.ops, (at, *masks)), False)
        self.assertIs(is_fault([], (0, 1, 0)), False)
        self.assertIs(is_fault([], (-1, 1, 0)), False)

    def test_a_further_qubit(self):
        for fault in ((0, 2, 0), (0, 3, 0), (0, 1, 2), (0, 0, 16), (3, 2, 0), (3, 7, 0), (3, 5, 2), (5, 1, 0),
                      (5, 2, 1), (6, 8, 2), (6, 1 << 40, 8), (0, 1, 1 << 70)):
            self.assertIs(is_fault(self.ops, fault), False)

    def test_both_masks_0(self):
        for at in range(-1, 8):
            self.assertIs(is_fault(self.ops, (at, 0, 0)), False)

    def test_negative_masks(self):
        for fault in ((0, -1, 0), (0, 0, -1), (0, -1, -1), (0, 1, -1), (0, -1, 1), (0, -2, 1), (0, 1, -2),
                      (3, -5, 5), (3, 5, -5), (3, -3, 4), (3, 5, -8)):
            self.assertIs(is_fault(self.ops, fault), False)

    def test_all_small_tuples(self):
        for at in range(-8, 9):
            for x in range(-3, 16):
                for z in range(-3, 16):
                    wanted = 0 <= at < 7 and x >= 0 and z >= 0 and (x, z) != (0, 0) and all(
                        q in self.ops[at][1:] for q in model.members(abs(x)) + model.members(abs(z)))
                    self.assertIs(is_fault(self.ops, (at, x, z)), wanted)

    def test_the_operations_stay(self):
        ops = list(self.ops)
        is_fault(ops, (3, 5, 5))
        self.assertEqual(ops, self.ops)


class SimpleFaultsTest(unittest.TestCase):

    def check(self, ops, width):
        for letter in "XZ":
            wanted = []
            for at, op in enumerate(ops):
                for mask in range(1, 2 ** width):
                    if set(model.members(mask)) <= set(op[1:]):
                        wanted.append((at, mask, 0) if letter == "X" else (at, 0, mask))
            found = simple_faults(ops, letter)
            self.assertIs(type(found), list)
            self.assertTrue(all(type(fault) is tuple for fault in found))
            self.assertEqual(found, wanted)
            self.assertTrue(all(is_fault(ops, fault) for fault in found))

    def test_each_kind(self):
        for kind in KINDS:
            self.assertEqual(simple_faults([(kind, 3)], "X"), [(0, 8, 0)])
            self.assertEqual(simple_faults([(kind, 3)], "Z"), [(0, 0, 8)])
        for op in (("cx", 1, 3), ("cx", 3, 1)):
            self.assertEqual(simple_faults([op], "X"), [(0, 2, 0), (0, 8, 0), (0, 10, 0)])
            self.assertEqual(simple_faults([op], "Z"), [(0, 0, 2), (0, 0, 8), (0, 0, 10)])

    def test_against_all_masks(self):
        source = random.Random(2)
        for width in (2, 3, 5):
            for _ in range(10):
                self.check(model.random_ops(source, width, source.randrange(9)), width)
        self.check(round_ops(2, 2), 7)

    def test_no_operations(self):
        self.assertEqual(simple_faults([], "X"), [])
        self.assertEqual(simple_faults([], "Z"), [])

    def test_the_list_is_new(self):
        ops = [("wait", 0), ("cx", 0, 1)]
        simple_faults(ops, "X").clear()
        self.assertEqual(len(simple_faults(ops, "X")), 4)
        self.assertEqual(ops, [("wait", 0), ("cx", 0, 1)])


class RunFrameTest(unittest.TestCase):

    def test_example(self):
        self.assertEqual(run_frame(round_ops(2, 2), [(7, 1, 0)]), ([1, 0, 0], 17, 0))

    def test_kinds_of_values(self):
        result = run_frame([("wait", 0), ("read_z", 0)], [(0, 1, 1)])
        self.assertIs(type(result), tuple)
        self.assertIs(type(result[0]), list)
        self.assertTrue(all(type(value) is int for value in result[0] + list(result[1:])))

    def test_nothing(self):
        self.assertEqual(run_frame([], []), ([], 0, 0))
        self.assertEqual(run_frame([("cx", 0, 1), ("read_x", 1), ("read_z", 0)], []), ([0, 0], 0, 0))

    def test_each_operation(self):
        """A first fault with all masks of two qubits, and then one operation."""
        for x in range(4):
            for z in range(4):
                if (x, z) == (0, 0):
                    continue
                start = [(0, x, z)]
                self.assertEqual(run_frame([("cx", 0, 1), ("wait", 0)], start), ([], x, z))
                for kind in ("zero", "plus"):
                    self.assertEqual(run_frame([("cx", 0, 1), (kind, 0)], start), ([], x & 2, z & 2))
                    self.assertEqual(run_frame([("cx", 0, 1), (kind, 1)], start), ([], x & 1, z & 1))
                self.assertEqual(run_frame([("cx", 0, 1), ("read_z", 0)], start), ([x & 1], x, z))
                self.assertEqual(run_frame([("cx", 0, 1), ("read_z", 1)], start), ([x >> 1], x, z))
                self.assertEqual(run_frame([("cx", 0, 1), ("read_x", 0)], start), ([z & 1], x, z))
                self.assertEqual(run_frame([("cx", 0, 1), ("read_x", 1)], start), ([z >> 1], x, z))
                moved_x = x ^ (2 if x & 1 else 0)
                moved_z = z ^ (1 if z & 2 else 0)
                self.assertEqual(run_frame([("cx", 0, 1), ("cx", 0, 1)], start), ([], moved_x, moved_z))

    def test_a_fault_strikes_behind_an_operation(self):
        self.assertEqual(run_frame([("zero", 0)], [(0, 1, 0)]), ([], 1, 0))
        self.assertEqual(run_frame([("plus", 2)], [(0, 4, 4)]), ([], 4, 4))
        self.assertEqual(run_frame([("cx", 0, 1)], [(0, 1, 0)]), ([], 1, 0))
        self.assertEqual(run_frame([("cx", 0, 1)], [(0, 0, 2)]), ([], 0, 2))
        self.assertEqual(run_frame([("wait", 1), ("cx", 1, 0)], [(0, 2, 0)]), ([], 3, 0))

    def test_a_fault_strikes_before_a_reading(self):
        self.assertEqual(run_frame([("read_z", 0)], [(0, 1, 0)]), ([1], 1, 0))
        self.assertEqual(run_frame([("read_z", 0)], [(0, 0, 1)]), ([0], 0, 1))
        self.assertEqual(run_frame([("read_x", 0)], [(0, 0, 1)]), ([1], 0, 1))
        self.assertEqual(run_frame([("read_x", 0)], [(0, 1, 0)]), ([0], 1, 0))
        self.assertEqual(run_frame([("read_z", 3), ("read_x", 3), ("read_z", 3)], [(1, 8, 8)]), ([0, 1, 1], 8, 8))

    def test_several_faults_of_one_operation(self):
        ops = [("cx", 0, 1), ("read_z", 0), ("read_z", 1)]
        self.assertEqual(run_frame(ops, [(0, 1, 0), (0, 1, 0)]), ([0, 0], 0, 0))
        self.assertEqual(run_frame(ops, [(0, 1, 0), (0, 2, 2)]), ([1, 1], 3, 2))
        self.assertEqual(run_frame(ops, [(0, 3, 0), (0, 2, 0), (0, 2, 0)]), ([1, 1], 3, 0))
        self.assertEqual(run_frame(ops, [(1, 1, 0), (1, 0, 1), (1, 1, 1)]), ([0, 0], 0, 0))
        self.assertEqual(run_frame(ops, [(1, 1, 0), (1, 1, 0), (1, 1, 0)]), ([1, 0], 1, 0))

    def test_against_the_model(self):
        source = random.Random(3)
        for _ in range(300):
            width = source.randint(2, 6)
            ops = model.random_ops(source, width, source.randint(1, 30))
            faults = model.random_faults(source, ops, source.randrange(12))
            self.assertEqual(run_frame(ops, faults), model.frame(ops, faults))

    def test_lives_against_the_model(self):
        source = random.Random(4)
        for size in ((2, 2, 2), (3, 4, 1), (5, 3, 2)):
            ops = life_ops(*size)
            for _ in range(20):
                faults = model.random_faults(source, ops, source.randrange(20))
                self.assertEqual(run_frame(ops, faults), model.frame(ops, faults))

    def test_any_order(self):
        source = random.Random(5)
        ops = life_ops(2, 3, 2)
        faults = model.random_faults(source, ops, 12)
        faults += [model.random_fault(source, ops, at) for at, _, _ in faults[:4]]
        wanted = run_frame(ops, faults)
        for _ in range(10):
            source.shuffle(faults)
            self.assertEqual(run_frame(ops, faults), wanted)
        self.assertEqual(run_frame(ops, sorted(faults, reverse=True)), wanted)

    def test_the_arguments_stay(self):
        ops = round_ops(2, 3)
        faults = [(9, 1 << ops[9][1], 0), (2, 4, 4), (2, 4, 0)]
        copies = list(ops), list(faults)
        first = run_frame(ops, faults)
        self.assertEqual((ops, faults), copies)
        kept = list(first[0])
        first[0].clear()
        self.assertEqual(run_frame(ops, faults)[0], kept)

    def test_the_largest_life(self):
        ops = life_ops(9, 9, 10)
        faults = model.random_faults(random.Random(6), ops, 60)
        start = time.monotonic()
        result = run_frame(ops, faults)
        self.assertLess(time.monotonic() - start, 5)
        self.assertEqual(result, model.frame(ops, faults))


class SimpleEffectsTest(unittest.TestCase):
    """What the package uses to find the edges of a graph without running a frame for each fault."""

    def expected(self, ops, letter, marks, ends):
        found = []
        for fault in simple_faults(ops, letter):
            flips, x, z = model.frame(ops, [fault])
            total = 0
            for flip, mark in zip(flips, marks):
                total ^= flip * mark
            for q in model.members(x if letter == "X" else z):
                total ^= ends.get(q, 0)
            found.append(total)
        return found

    def test_against_frames(self):
        source = random.Random(13)
        for _ in range(150):
            width = source.randint(2, 5)
            ops = model.random_ops(source, width, source.randint(1, 25))
            readings = [op for op in ops if op[0].startswith("read")]
            marks = [source.randrange(64) for _ in readings]
            ends = {q: source.randrange(64) for q in range(width) if source.randrange(3)}
            given = list(ops), list(marks), dict(ends)
            for letter in "XZ":
                self.assertEqual(simple_effects(ops, letter, marks, ends), self.expected(ops, letter, marks, ends))
            self.assertEqual((ops, marks, ends), given)


def run_model(ours, ops, faults, coins):
    """Point 6.7, on a model of a state."""
    coins = list(coins)
    outcomes = []
    for at, op in enumerate(ops):
        kind, width = op[0], ours.width
        strikes = [model.from_masks(width, (0, x, z)) for place, x, z in faults if place == at]
        if kind in ("read_z", "read_x"):
            for one in strikes:
                ours.strike(one)
            operator = (0, model.single(width, {op[1]: kind[-1].upper()}))
            outcomes.append(ours.measure(operator, coins.pop(0) if coins else 0)[0])
            continue
        if kind in ("zero", "plus"):
            ours.reset(op[1], coins.pop(0) if coins else 0)
        if kind == "plus":
            ours.apply(("H", op[1]))
        if kind == "cx":
            ours.apply(("CX", op[1], op[2]))
        for one in strikes:
            ours.strike(one)
    return outcomes


class RunStateTest(unittest.TestCase):

    def check_against_model(self, source, width, fault_count, coin_count):
        state = random_state(source, width)
        ours = model.ModelState(width, [model.from_masks(width, p) for p in state.stabilizers()])
        ops = model.random_ops(source, width, source.randint(1, 14))
        faults = model.random_faults(source, ops, fault_count)
        coins = model.random_bits(source, coin_count)
        copies = list(ops), list(faults), list(coins)
        outcomes = run_state(state, ops, faults, coins)
        self.assertEqual((ops, faults, coins), copies)
        self.assertIs(type(outcomes), list)
        self.assertEqual(outcomes, run_model(ours, ops, faults, coins))
        for p in state.stabilizers():
            self.assertEqual(ours.expectation(model.from_masks(width, p)), 1)

    def test_against_the_model(self):
        source = random.Random(7)
        for count in range(200):
            fault_count = source.choice([0, 0, 1, 3, 6])
            self.check_against_model(source, 2 + count % 3, fault_count, source.choice([0, 2, 5, 30]))

    def test_each_operation(self):
        state = State(2)
        self.assertEqual(run_state(state, [("plus", 0), ("cx", 0, 1), ("wait", 0)], [], []), [])
        self.assertEqual(state.stabilizers(), [(0, 3, 0), (0, 0, 3)])
        self.assertEqual(run_state(state, [("read_z", 0), ("read_z", 1), ("read_x", 1)], [], [1, 0, 1]), [1, 1, 1])
        self.assertEqual(state.stabilizers(), [(2, 2, 0), (2, 0, 1)])
        self.assertEqual(run_state(state, [("zero", 0), ("plus", 1), ("read_z", 0), ("read_x", 1)], [], []), [0, 0])
        self.assertEqual(state.stabilizers(), [(0, 2, 0), (0, 0, 1)])

    def test_every_reset_and_every_reading_uses_a_coin(self):
        """Neither the resets nor the first readings need theirs, but the last reading gets the last one."""
        ops = [("zero", 0), ("wait", 0), ("plus", 1), ("cx", 0, 2), ("read_z", 0), ("read_x", 1), ("read_x", 2)]
        for coins in ([0, 0, 0, 0, 1], [1, 1, 1, 1, 1], [1, 0, 1, 0, 1, 0, 0], [0, 1, 0, 1, 1, 0]):
            self.assertEqual(run_state(State(3), ops, [], coins), [0, 0, 1])
        for coins in ([1, 1, 1, 1, 0], [1, 1, 1, 1], [1], [], [1, 1, 1, 1, 0, 1, 1]):
            self.assertEqual(run_state(State(3), ops, [], coins), [0, 0, 0])

    def test_a_reset_of_an_entangled_qubit_uses_its_coin(self):
        for coin in (0, 1):
            for kind in ("zero", "plus"):
                state = State(2)
                run_state(state, [("plus", 0), ("cx", 0, 1)], [], [])
                self.assertEqual(run_state(state, [(kind, 0), ("read_z", 1)], [], [coin, 1 - coin]), [coin])

    def test_faults(self):
        self.assertEqual(run_state(State(1), [("read_z", 0)], [(0, 1, 0)], []), [1])
        self.assertEqual(run_state(State(1), [("read_z", 0)], [(0, 0, 1)], []), [0])
        self.assertEqual(run_state(State(1), [("zero", 0), ("read_z", 0)], [(0, 1, 0)], []), [1])
        self.assertEqual(run_state(State(1), [("plus", 0), ("read_x", 0)], [(0, 1, 0)], []), [0])
        self.assertEqual(run_state(State(1), [("plus", 0), ("read_x", 0)], [(0, 0, 1)], []), [1])
        self.assertEqual(run_state(State(1), [("plus", 0), ("read_x", 0)], [(1, 1, 1)], []), [1])
        self.assertEqual(run_state(State(1), [("wait", 0), ("read_z", 0)], [(0, 1, 0), (0, 1, 1)], []), [0])
        self.assertEqual(run_state(State(1), [("wait", 0), ("read_z", 0)], [(1, 1, 0), (0, 1, 1)], []), [0])
        self.assertEqual(run_state(State(2), [("cx", 0, 1), ("read_z", 1), ("read_z", 0)], [(0, 1, 0)], []), [0, 1])

    def test_no_operations(self):
        state = State(2)
        self.assertEqual(run_state(state, [], [], [1, 0]), [])
        self.assertTrue(state.same_as(State(2)))


class LifeTest(unittest.TestCase):
    """Rounds on encoded states, points 6.3 and 6.8."""

    def encoded(self, source, rows, columns):
        """The stored state, its signs in the order of the corners, and the same state beside some helpers."""
        code = patch(rows, columns)
        signs = model.random_bits(source, rows * columns - 1)
        stored = read_pauli(source.choice(["+X", "-X", "+Y", "-Y", "+Z", "-Z"]))
        data = code.encoded([stored], signs)
        letters = [letter for letter, _, _ in corners(rows, columns)]
        state = joined_state(data, random_state(source, rows * columns - 1))
        return data, model.in_order(letters, signs), state

    def assert_holds(self, state, data):
        for p in data.stabilizers():
            self.assertEqual(state.expectation(p), 1)
            self.assertEqual(state.expectation(negated(p)), -1)

    def test_a_round_reads_the_signs_and_keeps_the_group(self):
        source = random.Random(8)
        for rows, columns in PATCHES * 2:
            data, signs, state = self.encoded(source, rows, columns)
            for rounds in (1, 2):
                coins = model.random_bits(source, source.randrange(40))
                self.assertEqual(run_state(state, life_ops(rows, columns, rounds), [], coins), signs * rounds)
                self.assert_holds(state, data)

    def check_faults(self, source, size, count):
        rows, columns, rounds = size
        data, signs, state = self.encoded(source, rows, columns)
        ops = life_ops(rows, columns, rounds)
        faults = model.random_faults(source, ops, count)
        coins = model.random_bits(source, source.randrange(60))
        plain = state.duplicate()
        self.assertEqual(run_state(plain, ops, [], coins), signs * rounds)
        flips, x, z = run_frame(ops, faults)
        outcomes = run_state(state, ops, faults, coins)
        self.assertEqual(outcomes, [sign ^ flip for sign, flip in zip(signs * rounds, flips)])
        plain.strike((0, x, z))
        self.assertTrue(state.same_as(plain))

    def test_outcomes_and_final_states_are_those_that_the_frame_tells(self):
        source = random.Random(9)
        for rows, columns in PATCHES:
            for rounds in (1, 2):
                for count in (0, 1, 1, 2, 4, 9, 20):
                    self.check_faults(source, (rows, columns, rounds), count)

    def test_every_single_fault_of_a_small_life(self):
        source = random.Random(10)
        data, signs, state = self.encoded(source, 2, 2)
        ops = round_ops(2, 2)
        plain = state.duplicate()
        run_state(plain, ops, [], [1, 0, 1])
        for fault in simple_faults(ops, "X") + simple_faults(ops, "Z"):
            flips, x, z = run_frame(ops, [fault])
            struck, wanted = state.duplicate(), plain.duplicate()
            self.assertEqual(run_state(struck, ops, [fault], [1, 0, 1]), [a ^ b for a, b in zip(signs, flips)])
            wanted.strike((0, x, z))
            self.assertTrue(struck.same_as(wanted))

    def test_every_reading_with_faults_is_determined(self):
        """Coins of readings make no difference."""
        source = random.Random(11)
        for rows, columns in PATCHES:
            data, signs, state = self.encoded(source, rows, columns)
            ops = life_ops(rows, columns, 2)
            faults = model.random_faults(source, ops, 8)
            results = []
            for bit in (0, 1):
                coins = [bit if op[0].startswith("read") else 0 for op in ops if op[0] not in ("wait", "cx")]
                copy = state.duplicate()
                results.append((run_state(copy, ops, faults, coins), copy.stabilizers()))
            self.assertEqual(results[0], results[1])

    def test_a_logical_qubit_that_is_entangled_with_another_qubit(self):
        code = joined_code(patch(2, 2), Code(1, [], [], [1], [1]))
        data = code.encoded([read_pauli("-XX"), read_pauli("+ZZ")], [0, 1, 1])
        # The other qubit has the number 4, so the helpers stand one qubit further on.
        ops = [(op[0], *[q + 1 if q >= 4 else q for q in qubits_of(op)]) for op in life_ops(2, 2, 2)]
        signs = model.in_order("ZXZ", [0, 1, 1])
        source = random.Random(12)
        for count in (0, 1, 5):
            faults = model.random_faults(source, ops, count)
            state = joined_state(data, State(3))
            plain = state.duplicate()
            run_state(plain, ops, [], [])
            self.assert_holds(plain, data)
            flips, x, z = run_frame(ops, faults)
            self.assertEqual(run_state(state, ops, faults, []), [a ^ b for a, b in zip(signs * 2, flips)])
            plain.strike((0, x, z))
            self.assertTrue(state.same_as(plain))


if __name__ == "__main__":
    unittest.main()
