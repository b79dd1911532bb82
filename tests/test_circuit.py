"""Part 6, points 6.1 to 6.3: circuits."""

import random
import time
import unittest

from bastion.circuit import life_ops, qubits_of, round_ops
from bastion.code import Code, joined_code
from bastion.errors import InvalidSize
from bastion.patch import corners, patch, touched
from bastion.pauli import negated, read_pauli
from bastion.state import State, joined_state
from tests import model

SIZES = [(2, 2), (2, 3), (3, 2), (3, 3), (2, 5), (5, 2), (4, 3), (4, 4), (5, 5)]
SMALL = [(1, 2), (2, 1), (1, 1), (0, 0), (-1, 4), (4, -1), (0, 9)]

NW, NE, SW, SE = range(4)
ORDERS = {"X": [NW, NE, SW, SE], "Z": [NW, SW, NE, SE]}


def expected_round(rows, columns):
    """What point 6.2 says of one round."""
    count = rows * columns
    sites = list(enumerate(corners(rows, columns)))
    ops = [("wait", q) for q in range(count)]
    for k, (letter, _, _) in sites:
        ops.append(("plus", count + k) if letter == "X" else ("zero", count + k))
    for layer in range(4):
        for k, (letter, i, j) in sites:
            qubit = touched(rows, columns, i, j)[ORDERS[letter][layer]]
            if qubit == -1:
                continue
            ops.append(("cx", count + k, qubit) if letter == "X" else ("cx", qubit, count + k))
    for k, (letter, _, _) in sites:
        ops.append(("read_x", count + k) if letter == "X" else ("read_z", count + k))
    return ops


def run(state, ops, coin):
    """Executes operations with the methods of a state, and returns what measure tells of the readings."""
    told = []
    for op in ops:
        if op[0] in ("zero", "plus"):
            state.reset(op[1], coin)
        if op[0] == "plus":
            state.apply(("H", op[1]))
        if op[0] == "cx":
            state.apply(("CX", op[1], op[2]))
        if op[0] == "read_z":
            told.append(state.measure((0, 0, 1 << op[1]), coin))
        if op[0] == "read_x":
            told.append(state.measure((0, 1 << op[1], 0), coin))
    return told


def helpers(source, count):
    """A random state of the helpers."""
    state = State(count)
    for _ in range(4 * count):
        qubit, other = source.sample(range(count), 2) if count > 1 else (0, 0)
        state.apply(source.choice([("H", qubit), ("S", qubit), ("X", qubit), ("CX", qubit, other)]))
    return state


def by_corners(rows, columns, code_signs):
    """The signs in the order of the corners, from those in the order of check_paulis."""
    return model.in_order([letter for letter, _, _ in corners(rows, columns)], code_signs)


class OperationsTest(unittest.TestCase):

    def test_example(self):
        self.assertEqual(round_ops(2, 2)[4:10],
                         [("zero", 4), ("plus", 5), ("zero", 6), ("cx", 5, 0), ("cx", 1, 6), ("cx", 5, 1)])

    def test_qubits_of_each_operation(self):
        for kind in ("wait", "zero", "plus", "read_z", "read_x"):
            self.assertEqual(qubits_of((kind, 7)), (7,))
            self.assertIs(type(qubits_of((kind, 7))), tuple)
        self.assertEqual(qubits_of(("cx", 3, 1)), (3, 1))
        self.assertEqual(qubits_of(("cx", 0, 60)), (0, 60))

    def test_a_whole_round(self):
        self.assertEqual(round_ops(2, 2), [
            ("wait", 0), ("wait", 1), ("wait", 2), ("wait", 3), ("zero", 4), ("plus", 5), ("zero", 6),
            ("cx", 5, 0), ("cx", 1, 6),
            ("cx", 5, 1), ("cx", 3, 6),
            ("cx", 0, 4), ("cx", 5, 2),
            ("cx", 2, 4), ("cx", 5, 3),
            ("read_z", 4), ("read_x", 5), ("read_z", 6),
        ])

    def test_rounds_of_several_sizes(self):
        for rows, columns in SIZES:
            ops = round_ops(rows, columns)
            self.assertIs(type(ops), list)
            self.assertTrue(all(type(op) is tuple for op in ops))
            self.assertEqual(ops, expected_round(rows, columns))

    def test_lives(self):
        for rows, columns in SIZES:
            for rounds in (1, 2, 5):
                ops = life_ops(rows, columns, rounds)
                self.assertIs(type(ops), list)
                self.assertEqual(ops, expected_round(rows, columns) * rounds)

    def test_invalid_sizes(self):
        for rows, columns in SMALL:
            with self.assertRaises(InvalidSize):
                round_ops(rows, columns)
            for rounds in (1, 3, 0):
                with self.assertRaises(InvalidSize):
                    life_ops(rows, columns, rounds)
        for rounds in (0, -1, -7):
            with self.assertRaises(InvalidSize):
                life_ops(2, 2, rounds)

    def test_a_change_of_a_returned_list_has_no_effect(self):
        for call in (lambda: round_ops(2, 3), lambda: life_ops(2, 3, 1), lambda: life_ops(2, 3, 2)):
            before = list(call())
            changed = call()
            changed[0] = ("read_z", 0)
            changed.append(("wait", 0))
            self.assertEqual(call(), before)

    def test_the_largest_life(self):
        start = time.monotonic()
        self.assertEqual(life_ops(9, 9, 10), expected_round(9, 9) * 10)
        self.assertLess(time.monotonic() - start, 10)


class RoundOnAStateTest(unittest.TestCase):

    def check_round(self, rows, columns, source, coin):
        code = patch(rows, columns)
        count = rows * columns - 1
        signs = [source.randrange(2) for _ in range(count)]
        stored = read_pauli(source.choice(["+X", "-X", "+Y", "-Y", "+Z", "-Z"]))
        data = code.encoded([stored], signs)
        state = joined_state(data, helpers(source, count))
        for _ in range(2):
            told = run(state, round_ops(rows, columns), coin)
            self.assertEqual(told, [(sign, False) for sign in by_corners(rows, columns, signs)])
            for p in data.stabilizers():
                self.assertEqual(state.expectation(p), 1)
                self.assertEqual(state.expectation(negated(p)), -1)

    def test_a_round_tells_the_signs_and_keeps_the_state(self):
        source = random.Random(11)
        for rows, columns in ((2, 2), (2, 3), (3, 2), (3, 3), (2, 4), (4, 3), (4, 4)):
            for coin in (0, 1):
                self.check_round(rows, columns, source, coin)

    def test_a_logical_qubit_stays_entangled_with_another_qubit(self):
        code = joined_code(patch(2, 2), Code(1, [], [], [1], [1]))
        data = code.encoded([read_pauli("+XX"), read_pauli("-ZZ")], [1, 0, 1])
        state = joined_state(data, State(3))
        # The other qubit has the number 4, so the helpers stand one qubit further on.
        ops = [(op[0], *[q + 1 if q >= 4 else q for q in op[1:]]) for op in round_ops(2, 2)]
        self.assertEqual(run(state, ops, 0), [(0, False), (1, False), (1, False)])
        for p in data.stabilizers():
            self.assertEqual(state.expectation(p), 1)

    def test_a_round_measures_the_checks_of_any_state(self):
        """Open checks are chosen by the coin in the first round, and told again by the second one."""
        for rows, columns in ((2, 2), (3, 3)):
            count = rows * columns
            state = State(2 * count - 1)
            first = run(state, round_ops(rows, columns), 1)
            second = run(state, round_ops(rows, columns), 0)
            self.assertEqual([outcome for outcome, _ in first], [outcome for outcome, _ in second])
            self.assertFalse(any(chosen for _, chosen in second))

    def test_60_qubits_and_10_rounds(self):
        start = time.monotonic()
        code = patch(5, 6)
        signs = [k % 3 % 2 for k in range(29)]
        data = code.encoded([(0, 1, 1)], signs)
        state = joined_state(data, State(30))
        self.assertEqual(state.width, 60)
        told = run(state, life_ops(5, 6, 10), 1)
        self.assertEqual(told, [(sign, False) for sign in by_corners(5, 6, signs)] * 10)
        self.assertTrue(all(state.expectation(p) == 1 for p in data.stabilizers()))
        self.assertLess(time.monotonic() - start, 30)


if __name__ == "__main__":
    unittest.main()
