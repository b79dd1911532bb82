"""Part 13: streams."""

import random
import unittest

from bastion.circuit import life_ops, round_ops
from bastion.clusters import cluster_join
from bastion.errors import Closed, InvalidRecord, InvalidSize
from bastion.faults import run_frame, run_state
from bastion.graph import life_graph
from bastion.patch import corners, patch
from bastion.pauli import read_pauli
from bastion.record import record_of
from bastion.state import State, joined_state
from bastion.stream import Stream
from tests import model
from tests.test_memory import with_letters

SIZES = [(2, 2), (2, 3), (3, 2), (3, 3), (4, 3), (3, 5), (5, 5)]


def strength(rows, columns, letter):
    return (rows - 1) // 2 if letter == "X" else (columns - 1) // 2


class ModelStream:
    """Points 13.2 to 13.4 for one letter and a whole record, straight from their words."""

    def __init__(self, rows, columns, letter, record):
        self.size = (rows, columns)
        self.letter = letter
        self.rest = strength(rows, columns, letter) + 1
        checks = [k for k, corner in enumerate(corners(rows, columns)) if corner[0] != letter]
        self.nodes = {
            t: [j for j, k in enumerate(checks) if record[t][k] != record[t - 1][k]] for t in range(1, len(record))
        }
        self.many = len(checks)
        self.final = len(record) - 1
        self.found = [(first, last, self.flip(first, last, end)) for first, last, end in self.segments()]

    def segments(self):
        """All segments (first, last), and the row in which each is decided."""
        loud = [t for t in sorted(self.nodes) if self.nodes[t]]
        found = []
        for t in loud:
            quiet_before = t - found[-1][1] - 1 if found else self.rest
            if found and quiet_before < self.rest:
                found[-1][1] = t
            else:
                found.append([t, t])
        return [(first, last, min(last + self.rest, self.final)) for first, last in found]

    def flip(self, first, last, end):
        """Point 13.3; end is the row in which the segment is decided."""
        a = max(1, first - self.rest)
        b = min(last + self.rest, end)
        graph = life_graph(*self.size, max(1, b - a), self.letter)
        fired = [(t - a) * self.many + j for t in range(first, last + 1) for j in self.nodes[t]]
        return model.flip_of(graph, cluster_join(graph, fired))

    def decided(self, row, closed):
        """The segments that are decided when the last row that was seen is the given one."""
        return [segment for segment in self.found if segment[1] + self.rest <= row or closed]

    def waiting(self, row, closed):
        done = [t for first, last, _ in self.decided(row, closed) for t in range(first, last + 1)]
        return sum(len(self.nodes[t]) for t in range(1, row + 1) if t not in done)


class RefusedTest(unittest.TestCase):

    def test_sizes(self):
        for rows, columns in ((1, 2), (2, 1), (1, 1), (0, 3), (3, 0), (-1, 3)):
            for signs in ([], [0], [0] * 3, [2] * 3):
                with self.assertRaises(InvalidSize):
                    Stream(rows, columns, signs)

    def wrong_rows(self, count):
        return [[], [0] * (count - 1), [0] * (count + 1), [0] * (2 * count), [2] + [0] * (count - 1),
                [0] * (count - 1) + [-1], [0] * (count - 1) + [10]]

    def test_signs(self):
        for rows, columns in ((2, 2), (2, 3), (3, 3)):
            for signs in self.wrong_rows(rows * columns - 1):
                with self.assertRaises(InvalidRecord):
                    Stream(rows, columns, signs)

    def test_rows(self):
        for rows, columns in ((2, 2), (2, 3), (3, 3)):
            count = rows * columns - 1
            at = [corner[0] for corner in corners(rows, columns)].index("Z")
            loud = [int(k == at) for k in range(count)]
            stream = Stream(rows, columns, [0] * count)
            stream.push(loud)
            for row in self.wrong_rows(count):
                for take in (stream.push, stream.close):
                    with self.assertRaises(InvalidRecord):
                        take(row)
            # What was refused is not counted as a row, and the stream is not closed.
            self.assertEqual([stream.waiting(letter) for letter in "XZ"], [1, 0])
            self.assertEqual([segment[:3] for segment in stream.push(loud)], [("X", 1, 1)] if rows == 2 else [])

    def test_closed(self):
        stream = Stream(2, 2, [0, 0, 0])
        stream.close([0, 0, 0])
        for row in ([0, 0, 0], [1, 0, 1], [], [2, 0, 0], [0] * 5):
            for take in (stream.push, stream.close):
                with self.assertRaises(Closed):
                    take(row)
        self.assertEqual([stream.decided(letter) for letter in "XZ"], [[], []])

    def test_closed_with_segments(self):
        stream = Stream(3, 3, [0] * 8)
        stream.push([0, 1] + [0] * 6)
        stream.close([0] * 8)
        kept = [(stream.decided(letter), stream.flip(letter), stream.waiting(letter)) for letter in "XZ"]
        with self.assertRaises(Closed):
            stream.push([0, 1] + [0] * 6)
        self.assertEqual([(stream.decided(letter), stream.flip(letter), stream.waiting(letter)) for letter in "XZ"],
                         kept)


class ByHandTest(unittest.TestCase):
    """In 2 x 2 the checks are Z on 0 and 2, X on all, Z on 1 and 3; the rest is 1 for both letters."""

    def test_examples(self):
        stream = Stream(2, 2, [0, 0, 0])
        self.assertEqual(stream.push([1, 0, 0]), [])
        self.assertEqual(stream.waiting("X"), 1)

    def test_one_quiet_row_decides_in_2_x_2(self):
        stream = Stream(2, 2, [0, 0, 0])
        self.assertEqual(stream.push([1, 0, 0]), [])
        self.assertEqual(stream.decided("X"), [])
        found = stream.push([1, 0, 0])
        self.assertEqual(found, [("X", 1, 1, found[0][3])])
        self.assertEqual(stream.decided("X"), [(1, 1, found[0][3])])
        self.assertEqual((stream.waiting("X"), stream.flip("X")), (0, found[0][3]))
        self.assertEqual((stream.decided("Z"), stream.waiting("Z"), stream.flip("Z")), ([], 0, 0))
        self.assertEqual(stream.push([1, 0, 0]), [])

    def test_two_quiet_rows_decide_in_3_x_3(self):
        for gap in (1, 2, 3):
            stream = Stream(3, 3, [0] * 8)
            row = [0] * 8
            loud = [row[:k] + [1] + row[k + 1:] for k, corner in enumerate(corners(3, 3)) if corner[0] == "Z"][0]
            self.assertEqual(stream.push(row), [])
            self.assertEqual(stream.push(loud), [])
            for k in range(1, gap + 1):
                found = stream.push(loud)
                self.assertEqual(found, [("X", 2, 2, found[0][3])] if k == 2 else [])
                self.assertEqual(stream.waiting("X"), 1 if k < 2 else 0)
            self.assertEqual(stream.push(row), [])
            self.assertEqual(stream.waiting("X"), 2 if gap == 1 else 1)
            stream.close(row)
            spans = [(first, last) for first, last, _ in stream.decided("X")]
            self.assertEqual(spans, [(2, 4)] if gap == 1 else [(2, 2), (3 + gap, 3 + gap)])

    def test_different_rests_for_the_letters(self):
        """With 5 rows and 3 columns the rest is 3 for X and 2 for Z."""
        letters = [corner[0] for corner in corners(5, 3)]
        both = [int(k in (letters.index("X"), letters.index("Z"))) for k in range(14)]
        stream = Stream(5, 3, [0] * 14)
        found = [[(letter, first, last) for letter, first, last, _ in stream.push(both)] for _ in range(5)]
        self.assertEqual(found, [[], [], [("Z", 1, 1)], [("X", 1, 1)], []])

    def test_both_letters_in_one_row(self):
        stream = Stream(3, 3, [1, 0] * 4)
        letters = [corner[0] for corner in corners(3, 3)]
        row = [1, 0] * 4
        changed = [bit ^ int(k in (letters.index("X"), letters.index("Z"))) for k, bit in enumerate(row)]
        self.assertEqual([stream.push(changed), stream.push(changed)], [[], []])
        found = stream.push(changed)
        self.assertEqual([segment[:3] for segment in found], [("X", 1, 1), ("Z", 1, 1)])
        self.assertEqual((stream.waiting("X"), stream.waiting("Z")), (0, 0))

    def test_the_last_row_decides_what_is_left(self):
        letters = [corner[0] for corner in corners(3, 3)]
        loud = [int(letter == "Z" and k == letters.index("Z")) for k, letter in enumerate(letters)]
        for quiet in range(5):
            stream = Stream(3, 3, [0] * 8)
            for _ in range(quiet):
                stream.push([0] * 8)
            stream.close(loud)
            self.assertEqual([segment[:2] for segment in stream.decided("X")], [(quiet + 1, quiet + 1)])
            self.assertEqual(stream.waiting("X"), 0)

    def test_a_life_without_faults(self):
        source = random.Random(1)
        for rows, columns in SIZES:
            signs = model.random_bits(source, rows * columns - 1)
            for rounds in (0, 1, 2, 7):
                stream = Stream(rows, columns, signs)
                for _ in range(rounds):
                    self.assertEqual(stream.push(signs), [])
                code = patch(rows, columns)
                x, z = stream.close(signs)
                self.assertTrue(code.is_trivial("X", x) and code.is_trivial("Z", z))
                for letter in "XZ":
                    self.assertEqual((stream.decided(letter), stream.flip(letter), stream.waiting(letter)), ([], 0, 0))

    def test_flips_by_hand(self):
        """In 3 x 3 an X that strikes a waiting qubit flips if the qubit is in row 0, where the Z logical is."""
        code = patch(3, 3)
        for q in range(9):
            signs = [0] * 8
            record = record_of(3, 3, 3, signs, [(round_ops(3, 3).index(("wait", q)), 1 << q, 0)])
            stream = Stream(3, 3, signs)
            for row in record[1:-1]:
                stream.push(row)
            x, z = stream.close(record[-1])
            self.assertEqual(stream.flip("X"), int(q < 3))
            self.assertTrue(code.is_trivial("X", x ^ 1 << q))
            self.assertTrue(code.is_trivial("Z", z))


class AgainstTheModelTest(unittest.TestCase):

    def check(self, rows, columns, record):
        """Pushes the rows of a record and compares each answer with the words."""
        signs = list(record[0])
        stream = Stream(rows, columns, signs)
        signs.reverse()
        models = {letter: ModelStream(rows, columns, letter, record) for letter in "XZ"}
        before = {"X": [], "Z": []}
        for t in range(1, len(record)):
            closing = t == len(record) - 1
            row = list(record[t])
            answer = stream.close(row) if closing else stream.push(row)
            self.assertEqual(row, record[t])
            # A stream does not follow what becomes of its rows.
            row.clear()
            now = {letter: models[letter].decided(t, closing) for letter in "XZ"}
            for letter in "XZ":
                self.assertEqual(stream.decided(letter), now[letter])
                self.assertEqual(stream.flip(letter), sum(flip for _, _, flip in now[letter]) % 2)
                self.assertEqual(stream.waiting(letter), models[letter].waiting(t, closing))
            if not closing:
                new = [(letter, *segment) for letter in "XZ" for segment in now[letter][len(before[letter]):]]
                self.assertIs(type(answer), list)
                self.assertEqual(answer, new)
                self.assertLessEqual(max([[one[0] for one in new].count(letter) for letter in "XZ"]), 1)
            before = now
        self.check_masks(rows, columns, record, stream, answer)

    def check_masks(self, rows, columns, record, stream, answer):
        self.assertIs(type(answer), tuple)
        code = patch(rows, columns)
        letters = [corner[0] for corner in corners(rows, columns)]
        for letter, mask in zip("XZ", answer):
            self.assertTrue(0 <= mask < 2 ** (rows * columns))
            syndrome = [a ^ b for other, a, b in zip(letters, record[0], record[-1]) if other != letter]
            self.assertEqual(code.syndrome(letter, mask), syndrome)
            self.assertEqual(code.logical_bits(letter, mask), [stream.flip(letter)])

    def test_rows_that_change_now_and_then(self):
        source = random.Random(2)
        for rows, columns in SIZES + [(2, 6), (6, 2), (7, 3)]:
            count = rows * columns - 1
            for chance in (0, 0.1, 0.3, 0.6, 1):
                for _ in range(4):
                    record = [model.random_bits(source, count)]
                    for _ in range(source.randint(1, 25)):
                        row = list(record[-1])
                        if source.random() < chance:
                            for k in source.sample(range(count), source.randint(1, min(count, 3))):
                                row[k] ^= 1
                        record.append(row)
                    self.check(rows, columns, record)

    def test_lives(self):
        source = random.Random(3)
        for rows, columns in SIZES:
            for rounds in (1, 2, 5, 20):
                ops = life_ops(rows, columns, rounds)
                for many in (0, 1, rounds // 3 + 1, rounds):
                    faults = model.random_faults(source, ops, many)
                    signs = model.random_bits(source, rows * columns - 1)
                    self.check(rows, columns, record_of(rows, columns, rounds, signs, faults))

    def test_no_rounds(self):
        self.check(2, 2, [[0, 1, 0], [0, 1, 0]])
        self.check(2, 2, [[0, 1, 0], [1, 0, 0]])
        self.check(3, 3, [[0] * 8, [1] * 8])

    def test_gaps_of_every_length_around_the_rest(self):
        for rows, columns in ((2, 2), (3, 3), (5, 4)):
            letters = [corner[0] for corner in corners(rows, columns)]
            for letter in "XZ":
                k = [other for other in range(len(letters)) if letters[other] != letter][-1]
                rest = strength(rows, columns, letter) + 1
                for start in sorted({1, 2, rest, rest + 1, rest + 2}):
                    for gap in sorted({0, rest - 1, rest, rest + 1}):
                        for end in (0, rest - 1, rest, rest + 1):
                            changes = [int(t in (start, start + gap + 1)) for t in range(1, start + gap + end + 2)]
                            record = [[0] * len(letters)]
                            for change in changes:
                                record.append([bit ^ (change if at == k else 0) for at, bit in enumerate(record[-1])])
                            self.check(rows, columns, record)

    def test_decisions_do_not_depend_on_later_rows(self):
        source = random.Random(4)
        for rows, columns in ((2, 2), (3, 3), (3, 5)):
            signs = [0] * (rows * columns - 1)
            first = Stream(rows, columns, signs)
            second = Stream(rows, columns, signs)
            ops = life_ops(rows, columns, 12)
            record = record_of(rows, columns, 12, signs, model.random_faults(source, ops, 4))
            for row in record[1:-1]:
                self.assertEqual(first.push(row), second.push(row))
            kept = {letter: first.decided(letter) for letter in "XZ"}
            for _ in range(10):
                second.push(model.random_bits(source, len(signs)))
            for letter in "XZ":
                self.assertEqual(second.decided(letter)[:len(kept[letter])], kept[letter])

    def test_the_lists_are_new(self):
        stream = Stream(2, 2, [0, 0, 0])
        stream.push([1, 1, 0])
        found = stream.push([1, 1, 0])
        kept = {letter: stream.decided(letter) for letter in "XZ"}
        self.assertEqual([len(kept[letter]) for letter in "XZ"], [1, 1])
        found.clear()
        stream.decided("X").clear()
        stream.decided("Z").append((5, 5, 1))
        self.assertEqual({letter: stream.decided(letter) for letter in "XZ"}, kept)


def bearable_rounds(source, rounds, most):
    """Rounds for faults, so that any (most + 1) * (most + 2) successive ones contain at most so many of them."""
    window = (most + 1) * (most + 2)
    chosen = []
    for t in range(rounds):
        while sum(t - other < window for other in chosen) < most and source.random() < 0.5:
            chosen.append(t)
    return chosen


def bearable_faults(source, rows, columns, rounds):
    """Faults within the bounds of point 13.5, many of them with both letters."""
    ops = life_ops(rows, columns, rounds)
    length = len(round_ops(rows, columns))
    places = {letter: bearable_rounds(source, rounds, strength(rows, columns, letter)) for letter in "XZ"}
    faults = []
    for t in list(places["X"]):
        letters = "XZ" if t in places["Z"] else "X"
        if letters == "XZ":
            places["Z"].remove(t)
        faults.append(source.choice(with_letters(ops, t * length + source.randrange(length), letters)))
    for t in places["Z"]:
        faults.append(source.choice(with_letters(ops, t * length + source.randrange(length), "Z")))
    source.shuffle(faults)
    return faults


def closed(rows, columns, record):
    """The masks of a stream that takes a record."""
    stream = Stream(rows, columns, record[0])
    for row in record[1:-1]:
        stream.push(row)
    return stream.close(record[-1])


class GuaranteeTest(unittest.TestCase):
    """Point 13.5."""

    def check(self, rows, columns, rounds, faults):
        record = record_of(rows, columns, rounds, [0] * (rows * columns - 1), faults)
        _, x, z = run_frame(life_ops(rows, columns, rounds), faults)
        data = 2 ** (rows * columns) - 1
        code = patch(rows, columns)
        for letter, error, mask in zip("XZ", (x, z), closed(rows, columns, record)):
            self.assertTrue(code.is_trivial(letter, error & data ^ mask), (letter, faults))

    def test_errors_are_trivial(self):
        source = random.Random(5)
        for size, rounds, times in (((3, 3), 1, 20), ((3, 3), 60, 12), ((3, 3), 400, 2), ((5, 5), 40, 8),
                                    ((5, 3), 60, 6), ((2, 3), 60, 6), ((4, 6), 50, 4), ((7, 7), 60, 3),
                                    ((9, 9), 70, 1)):
            for _ in range(times):
                self.check(*size, rounds, bearable_faults(source, *size, rounds))

    def test_there_are_many_faults(self):
        source = random.Random(6)
        faults = bearable_faults(source, 3, 3, 600)
        self.assertGreater(len(faults), 100)
        self.check(3, 3, 600, faults)

    def test_every_single_fault(self):
        ops = life_ops(3, 3, 2)
        for at in range(len(ops)):
            for letters in ("X", "Z", "XZ"):
                for fault in with_letters(ops, at, letters):
                    self.check(3, 3, 2, [fault])

    def test_stored_states_return(self):
        source = random.Random(7)
        for size, rounds in (((3, 3), 80), ((3, 3), 3), ((5, 3), 30), ((4, 4), 25), ((5, 5), 13)):
            rows, columns = size
            code = patch(rows, columns)
            letters = [corner[0] for corner in corners(rows, columns)]
            length = len(letters)
            for text in ("+X", "-Y", "-Z"):
                signs = model.random_bits(source, length)
                data = code.encoded([read_pauli(text)], signs)
                state = joined_state(data, State(length))
                faults = bearable_faults(source, rows, columns, rounds)
                outcomes = run_state(state, life_ops(rows, columns, rounds), faults, model.random_bits(source, 100))
                stream = Stream(rows, columns, model.in_order(letters, signs))
                for t in range(rounds):
                    stream.push(outcomes[t * length:(t + 1) * length])
                x_row, z_row = [], []
                for _, x, z in code.check_paulis():
                    outcome, chosen = state.measure((0, x, z), 0)
                    self.assertFalse(chosen)
                    (x_row if x else z_row).append(outcome)
                last = model.in_order(letters, x_row + z_row)
                x, z = stream.close(last)
                state.strike((0, x, z))
                for p in data.stabilizers():
                    self.assertEqual(state.expectation(p), 1)


if __name__ == "__main__":
    unittest.main()
