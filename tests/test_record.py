"""Part 7, points 7.1 to 7.3: records and the nodes that they fire."""

import random
import time
import unittest

from bastion.circuit import life_ops
from bastion.faults import simple_faults
from bastion.patch import corners, touched
from bastion.record import fired_nodes, record_of
from tests import model

LIVES = [(2, 2, 1), (2, 2, 3), (2, 4, 2), (4, 2, 2), (3, 3, 2), (3, 5, 1), (5, 3, 1), (4, 4, 2), (2, 3, 4), (3, 2, 4)]


def expected_record(rows, columns, rounds, signs, faults):
    """Point 7.2, with the model of a frame."""
    flips, x, z = model.frame(life_ops(rows, columns, rounds), faults)
    record = [list(signs)]
    for t in range(rounds):
        record.append([sign ^ flips[t * len(signs) + k] for k, sign in enumerate(signs)])
    last = []
    for sign, (letter, i, j) in zip(signs, corners(rows, columns)):
        other = z if letter == "X" else x
        met = [q for q in touched(rows, columns, i, j) if q != -1 and other >> q & 1]
        last.append((sign + len(met)) % 2)
    return record + [last]


def expected_nodes(rows, columns, record, letter):
    """Point 7.3."""
    checks = [k for k, corner in enumerate(corners(rows, columns)) if corner[0] == ("Z" if letter == "X" else "X")]
    return [
        (t - 1) * len(checks) + j
        for t in range(1, len(record)) for j, k in enumerate(checks) if record[t][k] != record[t - 1][k]
    ]


class RecordTest(unittest.TestCase):

    def check(self, size, signs, faults):
        record = record_of(*size, signs, faults)
        self.assertIs(type(record), list)
        self.assertEqual(len(record), size[2] + 2)
        for row in record:
            self.assertIs(type(row), list)
            self.assertTrue(all(type(bit) is int for bit in row))
        self.assertEqual(record, expected_record(*size, signs, faults))

    def test_example(self):
        self.assertEqual(record_of(2, 2, 1, [0, 0, 1], [(7, 1, 0)]), [[0, 0, 1], [1, 0, 1], [1, 0, 1]])

    def test_without_faults_all_rows_are_the_signs(self):
        source = random.Random(1)
        for rows, columns, rounds in LIVES:
            signs = model.random_bits(source, rows * columns - 1)
            self.assertEqual(record_of(rows, columns, rounds, signs, []), [signs] * (rounds + 2))

    def test_faults_followed_by_hand(self):
        """The checks of 2 x 2: Z on 0 and 2, X on all, Z on 1 and 3. The operations of a round: 18."""
        signs = [1, 0, 0]
        # X waits on qubit 0 before round 1, round 2 and the end.
        self.assertEqual(record_of(2, 2, 2, signs, [(0, 1, 0)]), [signs, [0, 0, 0], [0, 0, 0], [0, 0, 0]])
        self.assertEqual(record_of(2, 2, 2, signs, [(18, 1, 0)]), [signs, signs, [0, 0, 0], [0, 0, 0]])
        # The last coupling of the second round with qubit 3 is over, so only the end sees it.
        self.assertEqual(record_of(2, 2, 2, signs, [(32, 8, 0)]), [signs, signs, signs, [1, 0, 1]])
        # An inverted reading is seen in one row only: of the Z check 2 in round 1, of the X check in round 2.
        self.assertEqual(record_of(2, 2, 2, signs, [(17, 64, 0)]), [signs, [1, 0, 1], signs, signs])
        self.assertEqual(record_of(2, 2, 2, signs, [(34, 0, 32)]), [signs, signs, [1, 1, 0], signs])
        # Z on a data qubit meets the X check only, Y meets both.
        self.assertEqual(record_of(2, 2, 2, signs, [(1, 0, 2)]), [signs, [1, 1, 0], [1, 1, 0], [1, 1, 0]])
        self.assertEqual(record_of(2, 2, 2, signs, [(1, 2, 2)]), [signs, [1, 1, 1], [1, 1, 1], [1, 1, 1]])
        # The same fault twice is none.
        self.assertEqual(record_of(2, 2, 2, signs, [(0, 1, 0), (0, 1, 0)]), [signs] * 4)
        # X on qubits 0 and 2 at once is not seen at all.
        self.assertEqual(record_of(2, 2, 2, signs, [(0, 1, 0), (2, 4, 0)]), [signs] * 4)

    def test_every_single_fault(self):
        for size in ((2, 2, 2), (2, 3, 1), (3, 2, 1)):
            signs = [k % 2 for k in range(size[0] * size[1] - 1)]
            ops = life_ops(*size)
            for fault in simple_faults(ops, "X") + simple_faults(ops, "Z"):
                self.check(size, signs, [fault])

    def test_many_faults(self):
        source = random.Random(2)
        for size in LIVES:
            ops = life_ops(*size)
            for count in (1, 2, 3, 8, 40):
                signs = model.random_bits(source, size[0] * size[1] - 1)
                self.check(size, signs, model.random_faults(source, ops, count))

    def test_the_arguments_stay_and_the_rows_are_new(self):
        signs = [1, 0, 1]
        faults = [(7, 1, 0), (0, 1, 1)]
        first = record_of(2, 2, 2, signs, faults)
        kept = [list(row) for row in first]
        for row in first:
            row[0] ^= 1
        self.assertEqual((signs, faults), ([1, 0, 1], [(7, 1, 0), (0, 1, 1)]))
        self.assertEqual(record_of(2, 2, 2, signs, faults), kept)
        plain = record_of(2, 2, 2, signs, [])
        plain[1].append(0)
        self.assertEqual([len(row) for row in plain], [3, 4, 3, 3])

    def test_the_largest_life(self):
        source = random.Random(3)
        signs = model.random_bits(source, 80)
        faults = model.random_faults(source, life_ops(9, 9, 10), 50)
        start = time.monotonic()
        record = record_of(9, 9, 10, signs, faults)
        self.assertLess(time.monotonic() - start, 5)
        self.assertEqual(record, expected_record(9, 9, 10, signs, faults))


class FiredNodesTest(unittest.TestCase):

    def check(self, rows, columns, record):
        for letter in "XZ":
            found = fired_nodes(rows, columns, record, letter)
            self.assertIs(type(found), list)
            self.assertEqual(found, expected_nodes(rows, columns, record, letter))

    def test_nodes_by_hand(self):
        """The checks of 2 x 2 are Z, X, Z."""
        quiet = [[1, 0, 1]] * 4
        self.assertEqual(fired_nodes(2, 2, quiet, "X"), [])
        self.assertEqual(fired_nodes(2, 2, quiet, "Z"), [])
        record = [[1, 0, 1], [0, 0, 1], [0, 1, 1], [0, 1, 0]]
        self.assertEqual(fired_nodes(2, 2, record, "X"), [0, 5])
        self.assertEqual(fired_nodes(2, 2, record, "Z"), [1])
        record = [[0, 0, 0], [1, 1, 1], [0, 0, 0], [0, 1, 1]]
        self.assertEqual(fired_nodes(2, 2, record, "X"), [0, 1, 2, 3, 5])
        self.assertEqual(fired_nodes(2, 2, record, "Z"), [0, 1, 2])

    def test_the_numbers_of_a_wide_and_of_a_high_patch(self):
        """One check differs from one row on: that fires its node in this row, and no other one."""
        for rows, columns in ((2, 3), (3, 2), (2, 5), (5, 2)):
            letters = [letter for letter, _, _ in corners(rows, columns)]
            for k in range(len(letters)):
                for t in range(3):
                    record = [[0] * len(letters) for _ in range(4)]
                    for row in record[t + 1:]:
                        row[k] = 1
                    other = "X" if letters[k] == "Z" else "Z"
                    number = t * letters.count(letters[k]) + letters[:k].count(letters[k])
                    self.assertEqual(fired_nodes(rows, columns, record, other), [number])
                    self.assertEqual(fired_nodes(rows, columns, record, letters[k]), [])

    def test_any_bits(self):
        source = random.Random(4)
        for rows, columns, rounds in LIVES * 5:
            self.check(rows, columns, [model.random_bits(source, rows * columns - 1) for _ in range(rounds + 2)])

    def test_records_of_faults(self):
        source = random.Random(5)
        for size in LIVES:
            faults = model.random_faults(source, life_ops(*size), 5)
            signs = model.random_bits(source, size[0] * size[1] - 1)
            self.check(size[0], size[1], record_of(*size, signs, faults))

    def test_all_nodes_fired(self):
        record = [[t % 2] * 8 for t in range(4)]
        self.assertEqual(fired_nodes(3, 3, record, "X"), list(range(12)))
        self.assertEqual(fired_nodes(3, 3, record, "Z"), list(range(12)))

    def test_the_record_stays(self):
        record = [[1, 0, 1], [0, 0, 1], [0, 1, 1]]
        fired_nodes(2, 2, record, "X").clear()
        self.assertEqual(record, [[1, 0, 1], [0, 0, 1], [0, 1, 1]])
        self.assertEqual(fired_nodes(2, 2, record, "X"), [0])


if __name__ == "__main__":
    unittest.main()
