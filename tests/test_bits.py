"""Part 1: masks and linear algebra."""

import random
import time
import unittest
from itertools import permutations, product

from bastion.bits import (
    are_bits, combination, echelon, in_span, kernel, mask_of, members, parity, rank, solve, weight,
)
from bastion.errors import NoSolution
from tests.model import odd, span_of


def some_rows(seed, count, width):
    source = random.Random(seed)
    return [source.getrandbits(width) if width else 0 for _ in range(count)]


def is_echelon_form(masks):
    if any(mask <= 0 for mask in masks):
        return False
    tops = [1 << (mask.bit_length() - 1) for mask in masks]
    alone = all(sum(1 for mask in masks if mask & top) == 1 for top in tops)
    return alone and masks == sorted(masks, reverse=True)


class MasksTest(unittest.TestCase):

    def test_the_empty_mask(self):
        self.assertEqual(weight(0), 0)
        self.assertEqual(parity(0), 0)
        self.assertEqual(members(0), [])
        self.assertEqual(mask_of([]), 0)

    def test_small_masks(self):
        self.assertEqual(weight(13), 3)
        self.assertEqual(parity(13), 1)
        self.assertEqual(parity(12), 0)
        self.assertEqual(members(13), [0, 2, 3])
        self.assertEqual(mask_of([3, 0, 2]), 13)

    def test_are_bits(self):
        self.assertIs(are_bits([], 0), True)
        self.assertIs(are_bits([0, 1, 1], 3), True)
        for values, count in (([], 1), ([0], 0), ([0, 1], 3), ([0, 1], 1), ([2], 1), ([0, -1], 2)):
            self.assertIs(are_bits(values, count), False)

    def test_all_masks_below_256(self):
        for mask in range(256):
            numbers = [k for k in range(8) if mask // 2 ** k % 2]
            self.assertEqual(members(mask), numbers)
            self.assertEqual(weight(mask), len(numbers))
            self.assertEqual(parity(mask), len(numbers) % 2)
            self.assertEqual(mask_of(numbers), mask)

    def test_masks_of_200_bits(self):
        full = 2 ** 200 - 1
        self.assertEqual(weight(full), 200)
        self.assertEqual(parity(full), 0)
        self.assertEqual(parity(full // 2), 1)
        self.assertEqual(members(full), list(range(200)))
        self.assertEqual(members(2 ** 199 + 1), [0, 199])
        self.assertEqual(mask_of(list(range(200))), full)
        self.assertEqual(weight(2 ** 199), 1)

    def test_numbers_that_occur_several_times(self):
        self.assertEqual(mask_of([4, 4]), 0)
        self.assertEqual(mask_of([4, 4, 4]), 16)
        self.assertEqual(mask_of([1, 4, 1, 0, 4, 4]), 17)
        self.assertEqual(mask_of([0, 0, 0, 0]), 0)

    def test_a_passed_list_stays_as_it_was(self):
        numbers = [3, 1, 3, 3]
        mask_of(numbers)
        self.assertEqual(numbers, [3, 1, 3, 3])

    def test_kinds(self):
        for value in (weight(5), parity(5), parity(1), mask_of([1])):
            self.assertIs(type(value), int)
        self.assertIs(type(members(5)), list)

    def test_returned_lists_are_new(self):
        members(5).append(9)
        self.assertEqual(members(5), [0, 2])


class EchelonTest(unittest.TestCase):

    def test_example(self):
        self.assertEqual(echelon([6, 3, 5]), [5, 3])

    def test_the_empty_list_and_zero_rows(self):
        self.assertEqual(echelon([]), [])
        self.assertEqual(echelon([0, 0]), [])
        self.assertEqual(rank([]), 0)
        self.assertEqual(rank([0]), 0)
        self.assertIs(in_span([], 0), True)
        self.assertIs(in_span([], 1), False)
        self.assertIs(in_span([0], 1), False)

    def test_repeated_and_dependent_rows(self):
        self.assertEqual(echelon([5, 5, 5]), [5])
        self.assertEqual(rank([5, 5, 0, 5]), 1)
        self.assertEqual(rank([1, 2, 3]), 2)
        self.assertEqual(rank([1, 2, 4, 7, 6, 5, 3]), 3)
        self.assertEqual(echelon([7, 3, 1]), [4, 2, 1])
        self.assertEqual(echelon([3, 7, 12, 0, 12]), [8, 4, 3])

    def test_form_span_and_rank(self):
        for seed in range(60):
            rows = some_rows(seed, seed % 8, 1 + seed % 7)
            found = echelon(rows)
            span = span_of(rows)
            self.assertTrue(is_echelon_form(found), rows)
            self.assertEqual(span_of(found), span)
            self.assertEqual(rank(rows), len(found))
            self.assertEqual(2 ** rank(rows), len(span))

    def test_in_span_of_all_masks(self):
        for seed in range(40):
            rows = some_rows(seed, seed % 5, 6)
            span = span_of(rows)
            for mask in range(128):
                self.assertIs(in_span(rows, mask), mask in span)

    def test_the_order_of_the_rows_does_not_matter(self):
        for seed in range(6):
            rows = some_rows(seed, 5, 6)
            for other in permutations(rows):
                self.assertEqual(echelon(list(other)), echelon(rows))

    def test_large_masks(self):
        rows = [2 ** 200 + 1, 2 ** 200 + 2 ** 100, 2 ** 100]
        self.assertEqual(echelon(rows), [2 ** 200, 2 ** 100, 1])

    def test_arguments_stay_and_answers_are_new(self):
        rows = [3, 0, 6, 3]
        for call in (echelon, rank):
            call(rows)
            self.assertEqual(rows, [3, 0, 6, 3])
        in_span(rows, 5)
        kernel(rows, 3)
        combination(rows, 5)
        self.assertEqual(rows, [3, 0, 6, 3])
        echelon(rows).append(1)
        self.assertEqual(echelon(rows), [5, 3])
        basis = [5, 3]
        self.assertIsNot(echelon(basis), basis)

    def test_kinds(self):
        self.assertIs(type(echelon([3])), list)
        self.assertIs(type(rank([3])), int)
        self.assertIs(type(in_span([3], 3)), bool)


class CombinationTest(unittest.TestCase):

    def check(self, rows, mask):
        found = combination(rows, mask)
        self.assertIs(type(found), list)
        self.assertEqual(found, sorted(set(found)))
        total = 0
        for k in found:
            self.assertTrue(0 <= k < len(rows))
            total ^= rows[k]
        self.assertEqual(total, mask)

    def test_all_masks_of_small_lists(self):
        for seed in range(40):
            rows = some_rows(seed, seed % 7, 5)
            span = span_of(rows)
            for mask in range(64):
                if mask in span:
                    self.check(rows, mask)
                else:
                    with self.assertRaises(NoSolution):
                        combination(rows, mask)

    def test_only_choices(self):
        self.assertEqual(combination([1, 2, 4], 5), [0, 2])
        self.assertEqual(combination([4, 2, 1], 6), [0, 1])
        self.assertEqual(combination([], 0), [])
        self.assertEqual(combination([1, 2], 0), [])

    def test_repeated_and_zero_rows(self):
        self.check([0, 3, 3, 0, 5], 6)
        self.check([3, 3, 3], 3)
        self.check([0, 0], 0)

    def test_no_solution(self):
        for rows, mask in (([], 1), ([0], 1), ([3, 6], 1), ([3, 6], 8), ([2], 3)):
            with self.assertRaises(NoSolution):
                combination(rows, mask)

    def test_large(self):
        rows = some_rows(1, 60, 200)
        self.check(rows, rows[3] ^ rows[10] ^ rows[59])


class SolveTest(unittest.TestCase):

    def least(self, rows, bits, width):
        for x in range(2 ** width):
            if all(odd(x & row) == bit for row, bit in zip(rows, bits)):
                return x
        return None

    def check(self, rows, bits, width):
        wanted = self.least(rows, bits, width)
        if wanted is None:
            with self.assertRaises(NoSolution):
                solve(rows, bits)
        else:
            self.assertEqual(solve(rows, bits), wanted)

    def test_example(self):
        self.assertEqual(solve([6, 3], [1, 0]), 3)

    def test_empty_lists(self):
        self.assertEqual(solve([], []), 0)
        self.assertIs(type(solve([], [])), int)

    def test_zero_rows(self):
        self.assertEqual(solve([0, 0], [0, 0]), 0)
        with self.assertRaises(NoSolution):
            solve([0], [1])
        with self.assertRaises(NoSolution):
            solve([0, 3], [1, 1])

    def test_contradictions(self):
        for rows, bits in (([3, 3], [0, 1]), ([1, 2, 3], [1, 1, 1]), ([5, 6, 3], [0, 0, 1])):
            with self.assertRaises(NoSolution):
                solve(rows, bits)

    def test_all_small_systems(self):
        for rows in product(range(8), repeat=3):
            for bits in product((0, 1), repeat=3):
                self.check(list(rows), list(bits), 3)

    def test_random_systems(self):
        for seed in range(150):
            rows = some_rows(seed, 1 + seed % 6, 7)
            self.check(rows, some_rows(seed + 1000, len(rows), 1), 7)

    def test_the_answer_has_no_bits_beyond_the_rows(self):
        self.assertEqual(solve([2 ** 150], [1]), 2 ** 150)
        self.assertEqual(solve([2 ** 150 + 2 ** 3], [1]), 2 ** 3)

    def test_arguments_stay(self):
        rows, bits = [6, 3, 6], [1, 0, 1]
        solve(rows, bits)
        self.assertEqual((rows, bits), ([6, 3, 6], [1, 0, 1]))


class KernelTest(unittest.TestCase):

    def test_example(self):
        self.assertEqual(kernel([3, 6], 3), [7])

    def test_width_0_and_no_rows(self):
        self.assertEqual(kernel([], 0), [])
        self.assertEqual(kernel([0], 0), [])
        self.assertEqual(kernel([], 3), [4, 2, 1])
        self.assertEqual(kernel([0, 0], 2), [2, 1])
        self.assertEqual(kernel([1], 1), [])

    def test_against_all_masks(self):
        for seed in range(120):
            width = seed % 7
            rows = some_rows(seed, seed % 5, width)
            even = [mask for mask in range(2 ** width) if not any(odd(mask & row) for row in rows)]
            self.assertEqual(kernel(rows, width), echelon(even), (rows, width))

    def test_width_60_in_a_moment(self):
        start = time.monotonic()
        rows = some_rows(5, 30, 60)
        found = kernel(rows, 60)
        self.assertEqual(len(found), 60 - rank(rows))
        self.assertTrue(is_echelon_form(found))
        self.assertFalse(any(odd(mask & row) for mask in found for row in rows))
        self.assertEqual(kernel([], 60), [2 ** k for k in range(59, -1, -1)])
        self.assertEqual(len(kernel([2 ** 60 - 1], 60)), 59)
        self.assertLess(time.monotonic() - start, 5)


if __name__ == "__main__":
    unittest.main()
