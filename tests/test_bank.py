"""Part 10: banks."""

import random
import unittest

from bastion.bank import Bank
from bastion.errors import InvalidRecord, InvalidSize, InvalidState, SizeMismatch, TooMany
from bastion.memory import Decoding, Memory
from bastion.patch import corners
from bastion.pauli import negated, read_pauli
from bastion.record import fired_nodes, record_of
from bastion.state import State
from tests import model
from tests.test_memory import some_faults

BANKS = [([(2, 2)], 1), ([(2, 3)], 2), ([(2, 2), (3, 3)], 1), ([(3, 2), (2, 2), (2, 3)], 2), ([(3, 3), (3, 3)], 2)]


def random_state(source, width):
    """A random stabilizer state."""
    state = State(width)
    for _ in range(6 * width):
        kind = source.choice(["H", "S", "X", "Z", "CX"])
        if kind == "CX" and width > 1:
            state.apply((kind, *source.sample(range(width), 2)))
        elif kind != "CX":
            state.apply((kind, source.randrange(width)))
    return state


def random_signs(source, sizes):
    return [model.random_bits(source, rows * columns - 1) for rows, columns in sizes]


def no_signs(sizes):
    return [[0] * (rows * columns - 1) for rows, columns in sizes]


def random_paulis(source, width):
    """Operators that generate the group of a random state; they are not in the order of an echelon."""
    paulis = random_state(source, width).stabilizers()
    source.shuffle(paulis)
    return paulis


def bearable_faults(source, bank, count):
    """Faults of each memory within the bounds of point 9.3."""
    memories = [bank.memory(k) for k in range(count)]
    return [some_faults(source, m.ops(), m.bearable("X"), m.bearable("Z")) for m in memories]


def first_qubits(sizes):
    """The first qubit of each memory, and the number of all qubits."""
    firsts = [0]
    for rows, columns in sizes:
        firsts.append(firsts[-1] + 2 * rows * columns - 1)
    return firsts


def model_physical(sizes, power, letters):
    """Point 10.2, with model operators."""
    firsts = first_qubits(sizes)
    parts = [(power, "I" * firsts[-1])]
    for first, (rows, columns), letter in zip(firsts, sizes, letters):
        x_logical = (0, model.single(firsts[-1], {first + r * columns: "X" for r in range(rows)}))
        z_logical = (0, model.single(firsts[-1], {first + c: "Z" for c in range(columns)}))
        if letter == "Y":
            parts.append((1, "I" * firsts[-1]))
        if letter in "XY":
            parts.append(x_logical)
        if letter in "YZ":
            parts.append(z_logical)
    return model.to_masks(model.product_of(firsts[-1], parts))


def check_operators(sizes):
    """For each memory the check operators on the qubits of the bank, in order."""
    found = []
    for first, (rows, columns) in zip(first_qubits(sizes), sizes):
        places = [(letter, [(r, c) for r in (i - 1, i) for c in (j - 1, j) if 0 <= r < rows and 0 <= c < columns])
                  for letter, i, j in corners(rows, columns)]
        masks = [(letter, sum(2 ** (first + r * columns + c) for r, c in some)) for letter, some in places]
        found.append([(0, mask, 0) if letter == "X" else (0, 0, mask) for letter, mask in masks])
    return found


def helpers(sizes):
    return [first + q for first, (rows, columns) in zip(first_qubits(sizes), sizes)
            for q in range(rows * columns, 2 * rows * columns - 1)]


class SizesTest(unittest.TestCase):

    def test_example(self):
        self.assertEqual(Bank([(2, 2), (3, 3)], 1).width, 24)

    def test_what_is_refused(self):
        for sizes, rounds in (([(1, 2)], 1), ([(2, 1)], 1), ([(2, 2)], 0), ([(2, 2), (2, 2)], -1),
                              ([(2, 2), (1, 2)], 1), ([(2, 2), (3, 3), (3, 0)], 2), ([(0, 5), (3, 3)], 1),
                              ([(1, 1)], 0)):
            with self.assertRaises(InvalidSize):
                Bank(sizes, rounds)

    def test_width_memories_and_first_qubits(self):
        for sizes, rounds in BANKS + [([(2, 9)], 3), ([(4, 2), (2, 2)], 10)]:
            given = list(sizes)
            bank = Bank(sizes, rounds)
            self.assertEqual(sizes, given)
            self.assertEqual(bank.width, first_qubits(sizes)[-1])
            for k, (rows, columns) in enumerate(sizes):
                memory = bank.memory(k)
                self.assertIsInstance(memory, Memory)
                self.assertEqual((memory.rows, memory.columns, memory.rounds), (rows, columns, rounds))
                self.assertEqual(bank.first_qubit(k), first_qubits(sizes)[k])

    def test_a_bank_does_not_follow_its_sizes(self):
        sizes = [(2, 2), (3, 3)]
        bank = Bank(sizes, 1)
        sizes.clear()
        self.assertEqual((bank.width, bank.memory(1).rows, bank.first_qubit(1)), (24, 3, 7))
        self.assertTrue(bank.store([read_pauli("+ZI"), read_pauli("+IX")], [[0] * 3, [0] * 8]))


class PhysicalTest(unittest.TestCase):

    def test_by_hand(self):
        bank = Bank([(2, 2), (3, 3)], 1)
        self.assertEqual(bank.physical((0, 1, 0)), (0, 5, 0))
        self.assertEqual(bank.physical((2, 0, 1)), (2, 0, 3))
        self.assertEqual(bank.physical((0, 0, 2)), (0, 0, 7 << 7))
        self.assertEqual(bank.physical((3, 2, 0)), (3, 73 << 7, 0))
        self.assertEqual(bank.physical((1, 0, 0)), (1, 0, 0))
        # i X X Z Z with one qubit in common is the product of X, Y and Z.
        self.assertEqual(bank.physical((0, 1, 1)), (0, 5, 3))

    def test_every_operator_of_up_to_three_memories(self):
        for sizes in ([(2, 2)], [(2, 3), (3, 2)], [(2, 2), (3, 3)], [(3, 2), (2, 2), (2, 3)]):
            bank = Bank(sizes, 1)
            for letters in model.all_letters(len(sizes)):
                for power in range(4):
                    p = model.to_masks((power, letters))
                    self.assertEqual(bank.physical(p), model_physical(sizes, power, letters))


class StoreTest(unittest.TestCase):

    def check(self, sizes, rounds, paulis, signs):
        bank = Bank(sizes, rounds)
        given = list(paulis), [list(row) for row in signs]
        state = bank.store(paulis, signs)
        self.assertEqual((paulis, signs), given)
        self.assertIsInstance(state, State)
        self.assertEqual(state.width, bank.width)
        for p in paulis:
            power, letters = model.from_masks(len(sizes), p)
            self.assertEqual(state.expectation(model_physical(sizes, power, letters)), 1)
            self.assertEqual(bank.value(state, p), 1)
            self.assertEqual(bank.value(state, negated(p)), -1)
        for checks, row in zip(check_operators(sizes), signs):
            for p, sign in zip(checks, row):
                self.assertEqual(state.expectation(negated(p) if sign else p), 1)
        for q in helpers(sizes):
            self.assertEqual(state.expectation((0, 0, 1 << q)), 1)
        return bank, state

    def test_example(self):
        bank = Bank([(2, 2)], 1)
        self.assertEqual(bank.value(bank.store([(2, 0, 1)], [[0, 0, 0]]), (0, 0, 1)), -1)

    def test_each_single_operator(self):
        source = random.Random(1)
        for text in ("+X", "-X", "+Y", "-Y", "+Z", "-Z"):
            for size in ((2, 2), (2, 3), (3, 3)):
                self.check([size], 1, [read_pauli(text)], random_signs(source, [size]))

    def test_random_states(self):
        source = random.Random(2)
        for sizes, rounds in BANKS:
            for _ in range(6):
                paulis = random_paulis(source, len(sizes))
                self.check(sizes, rounds, paulis, random_signs(source, sizes))

    def test_values_that_are_not_determined(self):
        bank, state = self.check([(2, 2), (2, 3)], 1, [read_pauli("+XX"), read_pauli("-ZZ")], [[0] * 3, [1] * 5])
        for text, value in (("+XI", 0), ("+IZ", 0), ("-YI", 0), ("+YY", 1), ("-YY", -1), ("+II", 1), ("-II", -1)):
            self.assertEqual(bank.value(state, read_pauli(text)), value)

    def test_signs_of_another_size(self):
        bank = Bank([(2, 2), (2, 3)], 1)
        good = [read_pauli("+XX"), read_pauli("+ZZ")]
        right = [[0] * 3, [0] * 5]
        wrong_signs = [[], [[0] * 3], right + [[]], right + [[0] * 3], [[0] * 5, [0] * 3], [[0] * 2, [0] * 5],
                       [[0] * 3, [0] * 6], [[], [0] * 5], [[0] * 3, []], [[0, 2, 0], [0] * 5],
                       [[0] * 3, [0, 0, 0, 0, -1]]]
        bad_states = [[], good[:1], good + good[:1], [good[0], good[0]], [good[0], read_pauli("+ZI")],
                      [good[0], read_pauli("+iZZ")], [good[0], read_pauli("+ZZZ")], [good[0], read_pauli("-XX")],
                      [good[0], read_pauli("+II")]]
        for signs in wrong_signs:
            for paulis in [good] + bad_states:
                with self.assertRaises(SizeMismatch):
                    bank.store(paulis, signs)
        for paulis in bad_states:
            with self.assertRaises(InvalidState):
                bank.store(paulis, right)
        self.assertEqual(bank.store(good, right).width, bank.width)


class LiveTest(unittest.TestCase):

    def test_rows_against_records(self):
        source = random.Random(3)
        for sizes, rounds in BANKS:
            bank = Bank(sizes, rounds)
            for count in (0, 1, 2, 5, 30):
                signs = random_signs(source, sizes)
                faults = [model.random_faults(source, bank.memory(k).ops(), count) for k in range(len(sizes))]
                coins = model.random_bits(source, source.choice([0, 3, 40]))
                given = [list(struck) for struck in faults], list(coins)
                state = bank.store(random_paulis(source, len(sizes)), signs)
                rows = bank.live(state, faults, coins)
                self.assertEqual((faults, coins), given)
                records = [record_of(*size, rounds, signs[k], faults[k]) for k, size in enumerate(sizes)]
                self.assertEqual(rows, [record[1:-1] for record in records])
                self.assertEqual(bank.last_rows(state), [record[-1] for record in records])

    def test_coins_are_used_from_the_beginning_for_each_memory(self):
        """In this state nothing is determined, so the outcomes of the rounds are coins and what follows from them."""
        bank = Bank([(2, 2), (2, 2)], 1)
        for coins in ([0] * 6, [1] * 6, [0, 0, 0, 1, 1, 0], [0, 1, 1, 0, 0, 1], [1, 0, 1]):
            state = State(bank.width)
            for q in range(bank.width):
                state.apply(("H", q))
            rows = bank.live(state, [[], []], coins)
            self.assertEqual(rows[0], rows[1])
            # Three resets come first; the X check is determined, and the Z checks are the coins 3 and 5.
            padded = coins + [0] * 6
            self.assertEqual(rows[0], [[padded[3], 0, padded[5]]])

    def test_the_memories_live_one_after_the_other_on_their_own_qubits(self):
        bank = Bank([(2, 2), (2, 3)], 2)
        state = bank.store([read_pauli("+XX"), read_pauli("+ZZ")], [[0] * 3, [0] * 5])
        rows = bank.live(state, [[(0, 1, 0)], []], [])
        self.assertEqual(rows, [[[1, 0, 0]] * 2, [[0] * 5] * 2])
        rows = bank.live(state, [[], [(1, 0, 2)]], [])
        self.assertEqual(rows[0], [[1, 0, 0]] * 2)
        self.assertEqual(rows[1], record_of(2, 3, 2, [0] * 5, [(1, 0, 2)])[1:-1])


class LastRowsTest(unittest.TestCase):

    def test_after_a_strike(self):
        source = random.Random(4)
        for sizes, rounds in BANKS:
            bank = Bank(sizes, rounds)
            for _ in range(4):
                signs = random_signs(source, sizes)
                paulis = random_paulis(source, len(sizes))
                state = bank.store(paulis, signs)
                x, z = source.randrange(2 ** bank.width), source.randrange(2 ** bank.width)
                state.strike((0, x, z))
                struck = state.duplicate()
                wanted = [[sign ^ model.odd(p[1] & z) ^ model.odd(p[2] & x) for p, sign in zip(checks, row)]
                          for checks, row in zip(check_operators(sizes), signs)]
                self.assertEqual(bank.last_rows(state), wanted)
                self.assertTrue(state.same_as(struck))
                for p in paulis:
                    power, letters = model.from_masks(len(sizes), p)
                    _, logical_x, logical_z = model_physical(sizes, power, letters)
                    value = -1 if model.odd(logical_x & z) ^ model.odd(logical_z & x) else 1
                    self.assertEqual(bank.value(state, p), value)

    def test_what_is_not_determined_is_measured_with_the_coin_0(self):
        bank = Bank([(2, 2), (2, 2)], 1)
        state = State(bank.width)
        state.apply(("X", 7))
        # Both Z checks of memory 1 are determined, and the X checks are measured.
        self.assertEqual(bank.last_rows(state), [[0, 0, 0], [1, 0, 0]])
        for checks in check_operators([(2, 2), (2, 2)]):
            self.assertEqual(state.expectation(checks[1]), 1)

    def test_value_does_not_change_the_state(self):
        bank = Bank([(2, 2)], 1)
        state = bank.store([read_pauli("+X")], [[0, 1, 0]])
        self.assertEqual([bank.value(state, read_pauli(text)) for text in ("+X", "-X", "+Z", "-Y")], [1, -1, 0, 0])
        self.assertTrue(state.same_as(bank.store([read_pauli("+X")], [[0, 1, 0]])))


class RepairTest(unittest.TestCase):

    def setUp(self):
        self.sizes = [(2, 2), (3, 3)]
        self.bank = Bank(self.sizes, 2)
        self.signs = [[1, 0, 0], [0, 1, 0, 0, 1, 0, 0, 1]]
        self.paulis = [read_pauli("+XX"), read_pauli("-ZZ")]
        self.state = self.bank.store(self.paulis, self.signs)
        self.rows = self.bank.live(self.state, [[], [(4, 16, 16)]], [1, 0, 1])

    def spoiled(self):
        """Signs and rows that are wrong in one place."""
        yield [], self.rows
        yield self.signs[:1], self.rows
        yield self.signs + [[0] * 3], self.rows
        yield self.signs, []
        yield self.signs, self.rows[:1]
        yield self.signs, self.rows + [self.rows[0]]
        yield self.signs[:1], self.rows[:1]
        for k in range(2):
            count = len(self.signs[k])
            for row in ([], [0] * (count - 1), [0] * (count + 1), [2] + [0] * (count - 1), [0] * (count - 1) + [-1]):
                yield self.signs[:k] + [row] + self.signs[k + 1:], self.rows
                for t in range(2):
                    mine = self.rows[k][:t] + [row] + self.rows[k][t + 1:]
                    yield self.signs, self.rows[:k] + [mine] + self.rows[k + 1:]
            for mine in ([], self.rows[k][:1], self.rows[k] + [[0] * count]):
                yield self.signs, self.rows[:k] + [mine] + self.rows[k + 1:]

    def test_spoiled_signs_or_rows(self):
        # Of a state in which no check is determined, nothing is measured either.
        for state in (self.state, random_state(random.Random(5), self.bank.width)):
            before = state.duplicate()
            for signs, rows in self.spoiled():
                with self.assertRaises(InvalidRecord):
                    self.bank.repair(state, signs, rows)
                self.assertTrue(state.same_as(before))

    def test_the_state_returns(self):
        given = [list(row) for row in self.signs], [[list(row) for row in mine] for mine in self.rows]
        decodings = self.bank.repair(self.state, self.signs, self.rows)
        self.assertEqual((self.signs, self.rows), given)
        self.assertIs(type(decodings), list)
        self.assertTrue(self.state.same_as(self.bank.store(self.paulis, self.signs)))

    def test_the_decodings_are_those_of_the_records(self):
        last = self.bank.last_rows(self.state)
        decodings = self.bank.repair(self.state, self.signs, self.rows)
        self.assertEqual(len(decodings), 2)
        for k, decoding in enumerate(decodings):
            self.assertIsInstance(decoding, Decoding)
            wanted = self.bank.memory(k).decoded([self.signs[k]] + self.rows[k] + [last[k]])
            for letter in "XZ":
                self.assertEqual(decoding.edges(letter), wanted.edges(letter))
                self.assertEqual(decoding.cuts(letter), wanted.cuts(letter))
                self.assertEqual(decoding.flip(letter), wanted.flip(letter))
                self.assertEqual(decoding.correction(letter), wanted.correction(letter))

    def test_helpers_are_reset(self):
        for q in helpers(self.sizes):
            self.state.apply(("X", q))
        self.state.apply(("H", 5))
        self.bank.repair(self.state, self.signs, self.rows)
        self.assertTrue(self.state.same_as(self.bank.store(self.paulis, self.signs)))

    def test_helpers_are_reset_with_the_coin_0(self):
        """A helper that is entangled with the logical qubit is brought to 0 by a measurement with the outcome 0."""
        bank = Bank([(2, 2)], 1)
        stored = bank.store([read_pauli("+Z")], [[0, 0, 0]])
        state = stored.duplicate()
        for gate in (("H", 4), ("CX", 4, 0), ("CX", 4, 2)):
            state.apply(gate)
        self.assertEqual(bank.value(state, read_pauli("+Z")), 0)
        bank.repair(state, [[0, 0, 0]], [[[0, 0, 0]]])
        self.assertTrue(state.same_as(stored))

    def test_too_many_fired_nodes(self):
        bank = Bank([(2, 2), (5, 5)], 2)
        for letter in "XZ":
            checks = [k for k, corner in enumerate(corners(5, 5)) if corner[0] != letter]
            for count in (10, 11):
                state = bank.store([read_pauli("+XX"), read_pauli("+ZZ")], [[0] * 3, [0] * 24])
                rows = bank.live(state, [[(0, 1, 0)], []], [])
                state.apply(("X", 5))
                before = state.duplicate()
                # The last row has only zeros, so it alone differs from the row before.
                row = [int(k in checks[:count]) for k in range(24)]
                self.assertEqual(len(fired_nodes(5, 5, [row, row, row, [0] * 24], letter)), count)
                if count == 10:
                    bank.repair(state, [[0] * 3, row], [rows[0], [row, row]])
                    self.assertFalse(state.same_as(before))
                else:
                    with self.assertRaises(TooMany):
                        bank.repair(state, [[0] * 3, row], [rows[0], [row, row]])
                    self.assertTrue(state.same_as(before))

    def test_too_many_fired_nodes_in_a_state_without_determined_checks(self):
        bank = Bank([(5, 5)], 1)
        state = State(bank.width)
        for q in range(25):
            state.apply(("H", q))
        measured = state.duplicate()
        bank.last_rows(measured)
        self.assertFalse(measured.same_as(state))
        row = [int(letter == "Z") for letter, _, _ in corners(5, 5)]
        with self.assertRaises(TooMany):
            bank.repair(state, [row], [[row]])
        self.assertTrue(state.same_as(measured))


class GuaranteeTest(unittest.TestCase):
    """Point 10.5."""

    def check(self, source, bank, sizes, paulis):
        signs = random_signs(source, sizes)
        stored = bank.store(paulis, signs)
        state = stored.duplicate()
        faults = bearable_faults(source, bank, len(sizes))
        rows = bank.live(state, faults, model.random_bits(source, source.choice([0, 5, 100])))
        bank.repair(state, signs, rows)
        self.assertTrue(state.same_as(stored))
        self.assertTrue(state.same_as(bank.store(paulis, signs)))

    def test_one_memory(self):
        source = random.Random(6)
        for size, rounds, times in (((3, 3), 3, 20), ((3, 4), 2, 10), ((5, 3), 2, 10), ((5, 5), 1, 8), ((2, 2), 4, 3)):
            bank = Bank([size], rounds)
            for _ in range(times):
                self.check(source, bank, [size], random_paulis(source, 1))

    def test_two_memories_with_entangled_logical_qubits(self):
        source = random.Random(7)
        for sizes, rounds in (([(3, 3), (3, 3)], 2), ([(3, 5), (3, 3)], 1), ([(2, 3), (5, 3)], 1)):
            bank = Bank(sizes, rounds)
            for texts in (("+XX", "+ZZ"), ("-XX", "+ZZ"), ("+XZ", "-ZX"), ("+YX", "+ZY")):
                for _ in range(3):
                    self.check(source, bank, sizes, [read_pauli(text) for text in texts])
            for _ in range(4):
                self.check(source, bank, sizes, random_paulis(source, 2))

    def test_three_memories(self):
        source = random.Random(8)
        sizes = [(3, 3), (2, 3), (3, 3)]
        bank = Bank(sizes, 1)
        for _ in range(6):
            self.check(source, bank, sizes, random_paulis(source, 3))
        self.check(source, bank, sizes, [read_pauli(text) for text in ("+XXX", "-ZZI", "+IZZ")])


if __name__ == "__main__":
    unittest.main()
