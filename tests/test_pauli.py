"""Part 2: Pauli operators."""

import random
import unittest

from bastion.errors import InvalidText
from bastion.pauli import commute, negated, pauli_mul, pauli_text, pauli_weight, product_of, read_pauli, shifted
from tests import model

SIGNS = ["+", "+i", "-", "-i"]


def operators(width):
    return [(power, letters) for power in range(4) for letters in model.all_letters(width)]


class ProductTest(unittest.TestCase):

    def test_example(self):
        self.assertEqual(pauli_mul((0, 1, 0), (0, 1, 1)), (1, 0, 1))

    def test_the_letters(self):
        x, y, z = (0, 1, 0), (0, 1, 1), (0, 0, 1)
        self.assertEqual(pauli_mul(x, y), (1, 0, 1))
        self.assertEqual(pauli_mul(y, z), (1, 1, 0))
        self.assertEqual(pauli_mul(z, x), (1, 1, 1))
        self.assertEqual(pauli_mul(y, x), (3, 0, 1))
        self.assertEqual(pauli_mul(z, y), (3, 1, 0))
        self.assertEqual(pauli_mul(x, z), (3, 1, 1))
        for letter in (x, y, z):
            self.assertEqual(pauli_mul(letter, letter), (0, 0, 0))

    def check_pair(self, a, b):
        first, second = model.to_masks(a), model.to_masks(b)
        self.assertEqual(pauli_mul(first, second), model.to_masks(model.product(a, b)))
        self.assertIs(commute(first, second), model.commute(a, b))

    def test_all_pairs_on_one_qubit(self):
        for a in operators(1):
            for b in operators(1):
                self.check_pair(a, b)

    def test_all_pairs_on_two_qubits(self):
        for a in operators(2):
            for b in operators(2):
                self.check_pair(a, b)

    def test_random_pairs_on_many_qubits(self):
        source = random.Random(3)
        for width in (5, 60, 130):
            for _ in range(30):
                a, b = [
                    (source.randrange(4), "".join(source.choice("IXYZ") for _ in range(width))) for _ in range(2)
                ]
                self.check_pair(a, b)

    def test_commute_ignores_powers(self):
        for power in range(4):
            self.assertIs(commute((power, 1, 0), (1, 0, 1)), False)
            self.assertIs(commute((power, 3, 0), (3, 0, 3)), True)

    def test_product_of(self):
        self.assertEqual(product_of([]), (0, 0, 0))
        self.assertEqual(product_of([(3, 1, 1)]), (3, 1, 1))
        self.assertEqual(product_of([(0, 1, 0), (0, 1, 1), (0, 0, 1)]), (1, 0, 0))
        self.assertEqual(product_of([(0, 0, 1), (0, 1, 1), (0, 1, 0)]), (3, 0, 0))

    def test_product_of_is_from_the_left(self):
        source = random.Random(8)
        for count in range(6):
            some = [source.choice(operators(2)) for _ in range(count)]
            paulis = [model.to_masks(a) for a in some]
            before = list(paulis)
            self.assertEqual(product_of(paulis), model.to_masks(model.product_of(2, some)))
            self.assertEqual(paulis, before)

    def test_results_are_tuples(self):
        for p in (pauli_mul((0, 1, 0), (0, 1, 1)), negated((0, 1, 0)), shifted((0, 1, 0), 1), product_of([])):
            self.assertIs(type(p), tuple)
            self.assertEqual([type(part) for part in p], [int, int, int])


class SimpleTest(unittest.TestCase):

    def test_weight(self):
        for letters in model.all_letters(3):
            for power in range(4):
                p = model.to_masks((power, letters))
                self.assertEqual(pauli_weight(p), sum(1 for letter in letters if letter != "I"))
        self.assertEqual(pauli_weight((2, 2 ** 100, 2 ** 100 + 1)), 2)

    def test_negated(self):
        self.assertEqual([negated((power, 5, 6)) for power in range(4)],
                         [(2, 5, 6), (3, 5, 6), (0, 5, 6), (1, 5, 6)])

    def test_shifted(self):
        self.assertEqual(shifted((3, 5, 6), 0), (3, 5, 6))
        self.assertEqual(shifted((3, 5, 6), 2), (3, 20, 24))
        self.assertEqual(shifted((1, 1, 1), 100), (1, 2 ** 100, 2 ** 100))
        for letters in model.all_letters(2):
            moved = shifted(model.to_masks((1, letters)), 3)
            self.assertEqual(moved, model.to_masks((1, "III" + letters)))


class TextTest(unittest.TestCase):

    def test_examples(self):
        self.assertEqual(pauli_text(3, (2, 5, 1)), "-YIX")
        self.assertEqual(read_pauli("+iIZ"), (1, 0, 2))

    def test_all_texts(self):
        for width in (1, 2, 3):
            for power, letters in operators(width):
                text = SIGNS[power] + letters
                p = model.to_masks((power, letters))
                self.assertEqual(pauli_text(width, p), text)
                self.assertEqual(read_pauli(text), p)

    def test_wider_than_needed(self):
        self.assertEqual(pauli_text(5, (0, 1, 0)), "+XIIII")
        self.assertEqual(pauli_text(4, (3, 0, 0)), "-iIIII")
        self.assertEqual(read_pauli("+XIIII"), (0, 1, 0))
        self.assertEqual(read_pauli("-iIIII"), (3, 0, 0))
        long_text = "-i" + "I" * 150 + "Y"
        self.assertEqual(pauli_text(151, (3, 2 ** 150, 2 ** 150)), long_text)
        self.assertEqual(read_pauli(long_text), (3, 2 ** 150, 2 ** 150))

    def test_read_pauli_returns_a_tuple(self):
        self.assertIs(type(read_pauli("+X")), tuple)

    def test_invalid_texts(self):
        texts = [
            "", "X", "+", "+i", "+x", "- X", "-", "-i", "i", "iX", "++X", "+-X", "+ iX", "+ X", " +X", "+X ", "+X\n",
            "\n+X", "+iiX", "+Xi", "+IiX", "+y", "+XIA", "+X0", "+1", "XX", "I", "+X+X", "+X-", "+I X", "+IX,", "-iX.",
            "+I\tX", "+\u0130", "+\uff38", "\u2212X", "+i X", "+IXZYW", "X+", "+iI\r",
        ]
        for text in texts:
            with self.assertRaises(InvalidText, msg=repr(text)):
                read_pauli(text)


if __name__ == "__main__":
    unittest.main()
