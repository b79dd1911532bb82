"""Part 4: codes."""

import time
import unittest
from itertools import product

from bastion.code import Code, joined_code
from bastion.errors import InvalidCode, InvalidState, NoSolution, SizeMismatch, TooLarge
from bastion.pauli import negated, pauli_mul, read_pauli
from bastion.state import State, state_of
from tests import model
from tests.model import odd, span_of

# Valid codes: a width, X checks, Z checks, X logicals and Z logicals.
LISTS = [
    (3, [], [3, 6], [7], [1]),
    (3, [3, 6], [], [1], [7]),
    (4, [15], [15], [3, 5], [5, 3]),
    (4, [15], [3, 12], [3], [5]),
    (2, [], [], [1, 3], [3, 2]),
    (2, [3], [3], [], []),
    (1, [1], [], [], []),
    (1, [], [], [1], [1]),
    (7, [15 << 3], [3, 6, 15 << 3], [7, 3 << 3, 5 << 3], [1, 5 << 3, 3 << 3]),
]


def against(lists, letter):
    """The checks and the logicals against a letter."""
    _, x_checks, z_checks, x_logicals, z_logicals = lists
    return (z_checks, z_logicals) if letter == "X" else (x_checks, x_logicals)


def parities(masks, mask):
    return [odd(mask & other) for other in masks]


def read(*texts):
    return [read_pauli(text) for text in texts]


class ValidTest(unittest.TestCase):

    def test_valid_codes(self):
        for lists in LISTS:
            code = Code(*lists)
            self.assertEqual(code.width, lists[0])
            self.assertEqual((code.x_checks, code.z_checks, code.x_logicals, code.z_logicals), lists[1:])

    def check_invalid(self, cases):
        for lists in cases:
            with self.assertRaises(InvalidCode, msg=repr(lists)):
                Code(*lists)

    def test_width_below_1(self):
        self.check_invalid([(0, [], [], [], []), (-1, [], [], [], []), (-3, [1], [2], [4], [4]), (0, [1], [], [], [])])

    def test_masks_out_of_range(self):
        self.check_invalid([
            (1, [2], [], [], []), (1, [], [2], [], []), (1, [], [], [3], [1]), (1, [], [], [1], [3]),
            (2, [1], [4], [], []), (1, [0], [], [], []), (1, [], [0], [], []), (1, [], [], [0], [0]),
            (2, [0], [2], [], []), (1, [-1], [], [], []), (1, [], [], [-1], [1]), (2, [2 ** 100], [1], [], []),
        ])

    def test_checks_that_do_not_commute(self):
        self.check_invalid([(2, [1], [1], [], []), (3, [3], [6], [5], [5]), (4, [7, 8], [3, 1], [], [])])

    def test_logicals_that_do_not_commute_with_checks(self):
        self.check_invalid([
            (2, [1], [], [2], [3]), (2, [], [1], [3], [2]), (3, [], [3, 6], [3], [1]), (3, [3, 6], [], [1], [3]),
        ])

    def test_different_numbers_of_logicals(self):
        self.check_invalid([(2, [1], [], [2], []), (2, [1], [2], [], [2]), (2, [], [], [1, 2], [1])])

    def test_logicals_with_wrong_partners(self):
        self.check_invalid([
            (3, [1], [2], [4], [2]), (2, [], [], [1, 3], [1, 2]), (2, [], [], [1, 2], [3, 2]),
            (2, [], [], [3, 2], [1, 2]), (2, [], [], [1, 2], [2, 1]), (4, [15], [15], [3, 5], [3, 5]),
        ])

    def test_dependent_checks(self):
        self.check_invalid([
            (3, [3, 3], [4], [], []), (3, [4], [3, 3], [], []), (4, [3, 6, 5], [8], [], []),
            (4, [8], [3, 6, 5], [], []), (2, [1, 1], [], [], []),
        ])

    def test_numbers_that_do_not_add_up(self):
        self.check_invalid([
            (1, [], [], [], []), (2, [1], [], [], []), (2, [], [1], [], []), (2, [], [], [1], [1]),
            (5, [15], [15], [3, 5], [5, 3]),
        ])

    def test_properties_are_new_lists(self):
        for lists in LISTS:
            code = Code(*lists)
            for name, masks in zip(("x_checks", "z_checks", "x_logicals", "z_logicals"), lists[1:]):
                self.assertIs(type(getattr(code, name)), list)
                self.assertIsNot(getattr(code, name), getattr(code, name))
                getattr(code, name).append(1)
                self.assertEqual(getattr(code, name), masks)

    def test_a_later_change_of_the_lists_has_no_effect(self):
        lists = [[15], [15], [3, 5], [5, 3]]
        code = Code(4, *lists)
        for masks in lists:
            masks.append(9)
            masks[0] = 1
        self.assertEqual((code.x_checks, code.z_checks, code.x_logicals, code.z_logicals), ([15], [15], [3, 5], [5, 3]))
        self.assertEqual(code.syndrome("X", 1), [1])
        self.assertEqual(code.logical_bits("X", 1), [1, 1])
        self.assertEqual(code.check_paulis(), [(0, 15, 0), (0, 0, 15)])

    def test_the_passed_lists_stay_as_they_were(self):
        lists = [[], [3, 6], [7], [1]]
        code = Code(3, *lists)
        code.syndrome("X", 5)
        code.fix("X", [1, 0], [1])
        code.distance("X")
        self.assertEqual(lists, [[], [3, 6], [7], [1]])


class ErrorsOfACodeTest(unittest.TestCase):

    def test_examples(self):
        code = Code(3, [], [3, 6], [7], [1])
        self.assertEqual(code.syndrome("X", 1), [1, 0])
        self.assertEqual(code.fix("X", [1, 0], [0]), 6)
        self.assertEqual(code.distance("X"), 3)

    def test_syndrome_and_logical_bits_of_all_masks(self):
        for lists in LISTS:
            code = Code(*lists)
            for letter in "XZ":
                checks, logicals = against(lists, letter)
                for mask in range(2 ** code.width):
                    self.assertEqual(code.syndrome(letter, mask), parities(checks, mask))
                    self.assertEqual(code.logical_bits(letter, mask), parities(logicals, mask))

    def test_is_trivial(self):
        for lists in LISTS:
            code = Code(*lists)
            for letter, own in (("X", lists[1]), ("Z", lists[2])):
                span = span_of(own)
                for mask in range(2 ** code.width):
                    self.assertIs(code.is_trivial(letter, mask), mask in span)
                    quiet = not any(code.syndrome(letter, mask) + code.logical_bits(letter, mask))
                    self.assertEqual(quiet, mask in span)

    def test_fix_is_the_least_mask(self):
        for lists in LISTS:
            code = Code(*lists)
            for letter in "XZ":
                checks, logicals = against(lists, letter)
                least = {}
                for mask in range(2 ** code.width):
                    least.setdefault((tuple(parities(checks, mask)), tuple(parities(logicals, mask))), mask)
                for syndrome in product((0, 1), repeat=len(checks)):
                    for bits in product((0, 1), repeat=len(logicals)):
                        found = code.fix(letter, list(syndrome), list(bits))
                        self.assertEqual(found, least[syndrome, bits])
                        self.assertIs(type(found), int)

    def test_fix_leaves_its_arguments(self):
        syndrome, bits = [1, 0], [1]
        Code(3, [], [3, 6], [7], [1]).fix("X", syndrome, bits)
        self.assertEqual((syndrome, bits), ([1, 0], [1]))

    def test_distance(self):
        for lists in LISTS:
            code = Code(*lists)
            for letter in "XZ":
                checks, logicals = against(lists, letter)
                weights = [
                    bin(mask).count("1") for mask in range(2 ** code.width)
                    if not any(parities(checks, mask)) and any(parities(logicals, mask))
                ]
                if weights:
                    self.assertEqual(code.distance(letter), min(weights))
                else:
                    with self.assertRaises(NoSolution):
                        code.distance(letter)

    def test_distance_of_wide_codes(self):
        def line(width):
            return Code(width, [], [3 << k for k in range(width - 1)], [2 ** width - 1], [1])

        self.assertEqual(line(16).distance("X"), 16)
        self.assertEqual(line(16).distance("Z"), 1)
        for width in (17, 40):
            with self.assertRaises(TooLarge):
                line(width).distance("X")
            with self.assertRaises(TooLarge):
                line(width).distance("Z")

    def test_distance_with_all_qubits_free(self):
        start = time.monotonic()
        masks = [1 << k for k in range(16)]
        self.assertEqual(Code(16, [], [], masks, masks).distance("X"), 1)
        self.assertLess(time.monotonic() - start, 10)

    def test_a_wide_code_without_logicals_is_too_large(self):
        masks = [1 << k for k in range(17)]
        with self.assertRaises(TooLarge):
            Code(17, masks, [], [], []).distance("X")
        with self.assertRaises(NoSolution):
            Code(16, masks[:16], [], [], []).distance("X")

    def test_returned_lists_are_new(self):
        code = Code(3, [], [3, 6], [7], [1])
        code.syndrome("X", 1).append(1)
        code.logical_bits("X", 1).append(1)
        code.check_paulis().append((0, 0, 0))
        self.assertEqual(code.syndrome("X", 1), [1, 0])
        self.assertEqual(code.logical_bits("X", 1), [1])
        self.assertEqual(code.check_paulis(), [(0, 0, 3), (0, 0, 6)])


class OperatorsTest(unittest.TestCase):

    def test_check_paulis(self):
        for lists in LISTS:
            wanted = [(0, mask, 0) for mask in lists[1]] + [(0, 0, mask) for mask in lists[2]]
            self.assertEqual(Code(*lists).check_paulis(), wanted)

    def test_logical_letters(self):
        code = Code(3, [], [3, 6], [7], [1])
        for power in range(4):
            self.assertEqual(code.logical_pauli((power, 0, 0)), (power, 0, 0))
            self.assertEqual(code.logical_pauli((power, 1, 0)), (power, 7, 0))
            self.assertEqual(code.logical_pauli((power, 0, 1)), (power, 0, 1))
            self.assertEqual(code.logical_pauli((power, 1, 1)), (power, 7, 1))

    def test_logical_y_of_long_logicals(self):
        code = Code(3, [], [3, 6], [7], [7])
        self.assertEqual(code.logical_pauli((0, 1, 1)), (2, 7, 7))

    def test_logical_paulis_against_the_words_of_the_point(self):
        for lists in LISTS:
            width, _, _, x_logicals, z_logicals = lists
            code = Code(*lists)
            for letters in model.all_letters(len(x_logicals)):
                parts = []
                for k, letter in enumerate(letters):
                    x = model.from_masks(width, (0, x_logicals[k], 0))
                    z = model.from_masks(width, (0, 0, z_logicals[k]))
                    both = model.product(x, z)
                    parts.append({"I": (0, "I" * width), "X": x, "Z": z, "Y": ((both[0] + 1) % 4, both[1])}[letter])
                power, text = model.product_of(width, parts)
                for more in range(4):
                    wanted = model.to_masks(((power + more) % 4, text))
                    self.assertEqual(code.logical_pauli(model.to_masks((more, letters))), wanted)

    def test_products_belong_to_products(self):
        for lists in (LISTS[2], LISTS[4]):
            code = Code(*lists)
            operators = [model.to_masks((power, letters)) for power in (0, 3) for letters in model.all_letters(2)]
            for a in operators:
                for b in operators:
                    wanted = pauli_mul(code.logical_pauli(a), code.logical_pauli(b))
                    self.assertEqual(code.logical_pauli(pauli_mul(a, b)), wanted)

    def test_a_code_without_logicals(self):
        code = Code(2, [3], [3], [], [])
        self.assertEqual(code.logical_pauli((2, 0, 0)), (2, 0, 0))
        self.assertTrue(code.encoded([], [0, 1]).same_as(state_of(2, read("+XX", "-ZZ"))))
        for texts in (["+I"], ["+X"], ["+Z"], ["-Z", "+X"]):
            with self.assertRaises(InvalidState):
                code.encoded(read(*texts), [0, 1])


class EncodedTest(unittest.TestCase):

    def test_signs_and_values(self):
        for lists in LISTS:
            code = Code(*lists)
            count = len(lists[3])
            checks = code.check_paulis()
            stored = [(2 * (k % 2), 0, 1 << k) for k in range(count)]
            for signs in product((0, 1), repeat=len(checks)):
                state = code.encoded(stored, list(signs))
                self.assertIs(type(state), State)
                self.assertEqual(state.width, code.width)
                for check, sign in zip(checks, signs):
                    self.assertEqual(state.expectation(check), 1 - 2 * sign)
                for p in stored:
                    self.assertEqual(state.expectation(code.logical_pauli(p)), 1)

    def test_entangled_logical_qubits(self):
        code = Code(4, [15], [15], [3, 5], [5, 3])
        state = code.encoded(read("-XX", "+ZZ"), [0, 1])
        for p, value in zip(read("+XX", "+ZZ", "+YY", "+XI", "+IZ"), (-1, 1, 1, 0, 0)):
            self.assertEqual(state.expectation(code.logical_pauli(p)), value)
        self.assertEqual(state.expectation((0, 15, 0)), 1)
        self.assertEqual(state.expectation((0, 0, 15)), -1)

    def test_arguments_stay_and_the_state_is_new(self):
        code = Code(3, [], [3, 6], [7], [1])
        paulis, signs = read("-Y"), [1, 0]
        state = code.encoded(paulis, signs)
        self.assertEqual((paulis, signs), (read("-Y"), [1, 0]))
        state.apply(("X", 0))
        self.assertFalse(code.encoded(paulis, signs).same_as(state))

    def test_group_is_that_of_the_generators(self):
        code = Code(3, [], [3, 6], [7], [1])
        wanted = state_of(3, [negated((0, 7, 1)), negated((0, 0, 3)), (0, 0, 6)])
        self.assertTrue(code.encoded(read("-Y"), [1, 0]).same_as(wanted))

    def test_size_mismatch(self):
        code = Code(3, [], [3, 6], [7], [1])
        for signs in ([], [0], [0, 0, 0]):
            with self.assertRaises(SizeMismatch):
                code.encoded(read("+Z"), signs)

    def test_size_mismatch_comes_first(self):
        code = Code(3, [], [3, 6], [7], [1])
        with self.assertRaises(SizeMismatch):
            code.encoded([], [0])
        with self.assertRaises(SizeMismatch):
            Code(1, [1], [], [], []).encoded(read("+X"), [])

    def test_invalid_states(self):
        code = Code(4, [15], [15], [3, 5], [5, 3])
        for texts in (
            [], ["+XX"], ["+XX", "+ZZ", "-YY"], ["+XX", "+XX"], ["+XX", "-XX"], ["+XI", "+ZI"], ["+iXX", "+ZZ"],
            ["+II", "+ZZ"], ["-II", "+ZZ"], ["+IIX", "+ZZ"], ["+ZI", "+IIZ"],
        ):
            with self.assertRaises(InvalidState, msg=repr(texts)):
                code.encoded(read(*texts), [0, 0])


class JoinedCodeTest(unittest.TestCase):

    def test_lists(self):
        for one in LISTS:
            for two in LISTS:
                first, second = Code(*one), Code(*two)
                both = joined_code(first, second)
                self.assertIs(type(both), Code)
                self.assertEqual(both.width, one[0] + two[0])
                wanted = [a + [mask * 2 ** one[0] for mask in b] for a, b in zip(one[1:], two[1:])]
                self.assertEqual([both.x_checks, both.z_checks, both.x_logicals, both.z_logicals], wanted)
                for code, lists in ((first, one), (second, two)):
                    self.assertEqual((code.x_checks, code.z_checks, code.x_logicals, code.z_logicals), lists[1:])

    def test_a_state_of_both(self):
        code = joined_code(Code(3, [], [3, 6], [7], [1]), Code(3, [3, 6], [], [1], [7]))
        state = code.encoded(read("+XX", "+ZZ"), [0, 0, 0, 0])
        self.assertEqual(state.expectation((0, 7 | 1 << 3, 0)), 1)
        self.assertEqual(state.expectation((0, 0, 1 | 7 << 3)), 1)
        self.assertEqual(code.distance("X"), 1)

    def test_a_code_joined_with_itself(self):
        code = Code(1, [], [], [1], [1])
        both = joined_code(code, code)
        self.assertEqual((both.width, both.x_logicals, both.z_logicals), (2, [1, 2], [1, 2]))


if __name__ == "__main__":
    unittest.main()
