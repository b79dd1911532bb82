"""Part 5: patches."""

import time
import unittest

from bastion.code import Code
from bastion.errors import InvalidSize
from bastion.patch import check_mask, corners, draw, patch, touched

SIZES = [(rows, columns) for rows in range(2, 6) for columns in range(2, 6)]
SMALL = [(1, 2), (2, 1), (1, 1), (0, 0), (0, 5), (5, 0), (-1, 3), (3, -1), (1, 9), (9, 1)]


def four(rows, columns, i, j):
    """What point 5.1 says of the data qubits of a corner."""
    def number(r, c):
        exists = r in range(rows) and c in range(columns)
        return r * columns + c if exists else -1

    return [number(i - 1, j - 1), number(i - 1, j), number(i, j - 1), number(i, j)]


def expected_corners(rows, columns):
    found = []
    for i in range(rows + 1):
        for j in range(columns + 1):
            letter = "Z" if (i + j) % 2 else "X"
            count = sum(1 for q in four(rows, columns, i, j) if q != -1)
            on_edge = (letter == "X" and i in (0, rows)) or (letter == "Z" and j in (0, columns))
            if count == 4 or count == 2 and on_edge:
                found.append((letter, i, j))
    return found


def expected_mask(rows, columns, i, j):
    return sum(2 ** q for q in four(rows, columns, i, j) if q != -1)


class CornersTest(unittest.TestCase):

    def test_examples(self):
        self.assertEqual(corners(2, 2), [("Z", 1, 0), ("X", 1, 1), ("Z", 1, 2)])
        self.assertEqual(touched(3, 3, 0, 1), [-1, -1, 0, 1])

    def test_touched_and_check_mask_of_all_corners(self):
        for rows, columns in SIZES:
            for i in range(rows + 1):
                for j in range(columns + 1):
                    self.assertEqual(touched(rows, columns, i, j), four(rows, columns, i, j))
                    self.assertEqual(check_mask(rows, columns, i, j), expected_mask(rows, columns, i, j))

    def test_touched_at_the_corners_of_a_patch(self):
        self.assertEqual(touched(3, 4, 0, 0), [-1, -1, -1, 0])
        self.assertEqual(touched(3, 4, 0, 4), [-1, -1, 3, -1])
        self.assertEqual(touched(3, 4, 3, 0), [-1, 8, -1, -1])
        self.assertEqual(touched(3, 4, 3, 4), [11, -1, -1, -1])
        self.assertEqual(touched(3, 4, 1, 2), [1, 2, 5, 6])

    def test_corners(self):
        for rows, columns in SIZES:
            found = corners(rows, columns)
            self.assertEqual(found, expected_corners(rows, columns))
            self.assertEqual(len(found), rows * columns - 1)
            self.assertEqual([(i, j) for _, i, j in found], sorted((i, j) for _, i, j in found))

    def test_corners_of_a_patch_of_3_rows(self):
        self.assertEqual(corners(3, 3), [
            ("X", 0, 2), ("Z", 1, 0), ("X", 1, 1), ("Z", 1, 2), ("Z", 2, 1), ("X", 2, 2), ("Z", 2, 3), ("X", 3, 1),
        ])

    def test_kinds_and_new_lists(self):
        self.assertIs(type(corners(2, 2)), list)
        self.assertTrue(all(type(corner) is tuple for corner in corners(3, 3)))
        corners(2, 2).clear()
        touched(2, 2, 0, 0).clear()
        self.assertEqual(len(corners(2, 2)), 3)
        self.assertEqual(touched(2, 2, 0, 0), [-1, -1, -1, 0])
        self.assertIs(type(check_mask(2, 2, 1, 1)), int)

    def test_invalid_sizes(self):
        for rows, columns in SMALL:
            for call in (
                lambda: touched(rows, columns, 0, 0), lambda: corners(rows, columns),
                lambda: check_mask(rows, columns, 0, 0), lambda: patch(rows, columns),
                lambda: draw(rows, columns, 0, 0),
            ):
                with self.assertRaises(InvalidSize):
                    call()


class PatchTest(unittest.TestCase):

    def test_lists(self):
        for rows, columns in SIZES:
            code = patch(rows, columns)
            self.assertIs(type(code), Code)
            self.assertEqual(code.width, rows * columns)
            wanted = {"X": [], "Z": []}
            for letter, i, j in expected_corners(rows, columns):
                wanted[letter].append(expected_mask(rows, columns, i, j))
            self.assertEqual(code.x_checks, wanted["X"])
            self.assertEqual(code.z_checks, wanted["Z"])
            self.assertEqual(code.x_logicals, [sum(2 ** (r * columns) for r in range(rows))])
            self.assertEqual(code.z_logicals, [2 ** columns - 1])

    def test_distances(self):
        for rows, columns in ((2, 2), (2, 3), (3, 2), (3, 3), (2, 5), (5, 2), (3, 5), (5, 3), (4, 4), (2, 8), (8, 2)):
            self.assertEqual(patch(rows, columns).distance("X"), rows)
            self.assertEqual(patch(rows, columns).distance("Z"), columns)

    def test_the_logical_operators(self):
        code = patch(2, 3)
        self.assertEqual(code.logical_pauli((0, 1, 0)), (0, 9, 0))
        self.assertEqual(code.logical_pauli((0, 0, 1)), (0, 0, 7))
        self.assertEqual(code.logical_pauli((0, 1, 1)), (0, 9, 7))

    def test_the_largest_patch(self):
        start = time.monotonic()
        code = patch(9, 9)
        self.assertEqual((len(code.x_checks), len(code.z_checks)), (40, 40))
        mask = 2 ** 80 + 2 ** 33 + 2 ** 7
        fixed = code.fix("X", code.syndrome("X", mask), code.logical_bits("X", mask))
        self.assertTrue(code.is_trivial("X", mask ^ fixed))
        state = code.encoded([(2, 1, 1)], [k % 2 for k in range(80)])
        self.assertEqual(state.expectation(code.logical_pauli((0, 1, 1))), -1)
        self.assertLess(time.monotonic() - start, 20)


class DrawTest(unittest.TestCase):

    def test_example(self):
        self.assertEqual(draw(2, 3, 9, 8), "X..\nY..\n")

    def test_nothing_and_everything(self):
        self.assertEqual(draw(2, 2, 0, 0), "..\n..\n")
        self.assertEqual(draw(3, 2, 63, 0), "XX\nXX\nXX\n")
        self.assertEqual(draw(2, 4, 0, 255), "ZZZZ\nZZZZ\n")
        self.assertEqual(draw(2, 2, 15, 15), "YY\nYY\n")

    def test_all_errors_of_a_small_patch(self):
        for x in range(16):
            for z in range(16):
                letters = [".XZY"[(x >> q & 1) + 2 * (z >> q & 1)] for q in range(4)]
                self.assertEqual(draw(2, 2, x, z), "".join(letters[:2]) + "\n" + "".join(letters[2:]) + "\n")

    def test_the_last_qubit(self):
        self.assertEqual(draw(3, 4, 2 ** 11, 2 ** 4), "....\nZ...\n...X\n")


if __name__ == "__main__":
    unittest.main()
