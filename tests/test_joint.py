"""Part 15: joint readings."""

import random
import unittest

from bastion.errors import InvalidSize, SizeMismatch
from bastion.faults import run_state
from bastion.joint import (
    joint_ops, joint_plan, separate_sites, separate_tall_sites, sites, tall_ops, tall_plan, tall_sites,
)
from bastion.pauli import commute, pauli_mul
from bastion.plan import Plan
from bastion.state import state_of
from tests import model
from tests.joint_model import JointModel, OTHER, PRODUCT
from tests.test_bank import random_paulis
from tests.test_memory import with_letters

SITES = {"wide": sites, "tall": tall_sites}
SEPARATE = {"wide": separate_sites, "tall": separate_tall_sites}
OPS = {"wide": joint_ops, "tall": tall_ops}
PLAN = {"wide": joint_plan, "tall": tall_plan}

# The sizes of the patches for each direction; the second number is the greater one in the direction of the seam.
SIZES = {
    "wide": [(2, 3), (3, 3), (4, 3), (2, 5), (5, 3), (3, 5)],
    "tall": [(3, 2), (3, 3), (3, 4), (5, 2), (3, 5), (5, 3)],
}

ROUNDS = [(1, 2, 1), (2, 2, 1), (1, 3, 2), (3, 4, 3)]


def all_sizes():
    return [(direction, *size) for direction in ("wide", "tall") for size in SIZES[direction]]


def random_signs(source, direction, rows, columns):
    return model.random_bits(source, len(JointModel(direction, rows, columns).separate))


class ListsTest(unittest.TestCase):

    def test_sites(self):
        self.assertEqual(len(separate_sites(2, 3)), 10)
        for direction, rows, columns in all_sizes():
            wanted = JointModel(direction, rows, columns)
            self.assertEqual(SITES[direction](rows, columns), wanted.sites)
            self.assertEqual(SEPARATE[direction](rows, columns), wanted.separate)
            self.assertEqual(len(wanted.separate), 2 * (rows * columns - 1))

    def test_sites_by_hand(self):
        self.assertEqual(sites(2, 3)[:4], [("X", 0, 2), ("X", 0, 4), ("X", 0, 6), ("Z", 1, 0)])
        # In 2 x 3 the sites that are not separate are those at the seam: X at (0, 4), (1, 3) and (2, 4).
        listed = sites(2, 3)
        others = [site for s, site in enumerate(listed) if s not in separate_sites(2, 3)]
        self.assertEqual(others, [("X", 0, 4), ("X", 1, 3), ("X", 2, 4)])
        listed = tall_sites(3, 2)
        others = [site for s, site in enumerate(listed) if s not in separate_tall_sites(3, 2)]
        self.assertEqual(others, [("Z", 3, 0), ("Z", 3, 2), ("Z", 4, 1)])

    def test_operations(self):
        for direction, rows, columns in all_sizes():
            wanted = JointModel(direction, rows, columns)
            for rounds in ROUNDS:
                self.assertEqual(OPS[direction](rows, columns, *rounds), wanted.ops(*rounds))

    def test_plans(self):
        source = random.Random(1)
        for direction, rows, columns in all_sizes():
            wanted = JointModel(direction, rows, columns)
            for rounds in ROUNDS:
                signs = random_signs(source, direction, rows, columns)
                given = list(signs)
                plan = PLAN[direction](rows, columns, rounds, signs)
                self.assertEqual(signs, given)
                self.assertIsInstance(plan, Plan)
                self.assertEqual(plan.ops(), wanted.ops(*rounds))
                self.assertEqual(plan.ends(), wanted.ends())
                self.assertEqual(plan.detectors(), wanted.detectors(rounds, signs))
                self.assertEqual(plan.observables(), wanted.observables(rounds))

    def test_both_directions_are_alike(self):
        """What is wide for one size is tall for the exchanged one, with X and Z exchanged; only the orders differ."""
        for rows, columns in SIZES["wide"]:
            for rounds in ROUNDS[:2]:
                wide, tall = joint_ops(rows, columns, *rounds), tall_ops(columns, rows, *rounds)
                self.assertEqual(len(wide), len(tall))
                for one, other in (("zero", "plus"), ("read_z", "read_x"), ("cx", "cx"), ("wait", "wait")):
                    self.assertEqual(sum(op[0] == one for op in wide), sum(op[0] == other for op in tall))

    def test_the_lists_are_new(self):
        for direction, rows, columns in (("wide", 2, 3), ("tall", 3, 2)):
            wanted = JointModel(direction, rows, columns)
            SITES[direction](rows, columns).clear()
            SEPARATE[direction](rows, columns).clear()
            OPS[direction](rows, columns, 1, 2, 1).clear()
            self.assertEqual(SITES[direction](rows, columns), wanted.sites)
            self.assertEqual(SEPARATE[direction](rows, columns), wanted.separate)
            self.assertEqual(OPS[direction](rows, columns, 1, 2, 1), wanted.ops(1, 2, 1))


class RefusedTest(unittest.TestCase):

    def test_sizes(self):
        wrong = [(1, 3), (0, 3), (-1, 3), (2, 1), (2, 2), (2, 4), (3, 6), (2, 0), (2, -1), (1, 2)]
        for length, size in wrong:
            for direction, rows, columns in (("wide", length, size), ("tall", size, length)):
                with self.assertRaises(InvalidSize):
                    OPS[direction](rows, columns, 1, 2, 1)
                for signs in ([], [0] * 10, [0] * 4):
                    with self.assertRaises(InvalidSize):
                        PLAN[direction](rows, columns, (1, 2, 1), signs)

    def test_rounds(self):
        for rounds in ((0, 2, 1), (1, 1, 1), (1, 2, 0), (1, 0, 1), (-1, 2, 1), (1, 2, -1), (0, 0, 0)):
            for direction, rows, columns in (("wide", 2, 3), ("tall", 3, 2)):
                with self.assertRaises(InvalidSize):
                    OPS[direction](rows, columns, *rounds)
                for signs in ([0] * 10, [0] * 9, []):
                    with self.assertRaises(InvalidSize):
                        PLAN[direction](rows, columns, rounds, signs)

    def test_signs(self):
        for direction, rows, columns in (("wide", 2, 3), ("tall", 3, 2)):
            self.assertEqual(PLAN[direction](rows, columns, (1, 2, 1), [1] * 10).detectors()[0][2], 1)
            for signs in ([], [0] * 9, [0] * 11, [0] * 13, [2] + [0] * 9, [0] * 9 + [-1]):
                with self.assertRaises(SizeMismatch):
                    PLAN[direction](rows, columns, (1, 2, 1), signs)


class DistanceTest(unittest.TestCase):
    """Point 15.6."""

    def test_example(self):
        self.assertEqual(joint_plan(2, 3, (1, 2, 1), [0] * 10).distance(1), 2)

    def test_the_four_distances(self):
        for direction, rows, columns in all_sizes():
            size, length = (columns, rows) if direction == "wide" else (rows, columns)
            for rounds in ROUNDS + [(1, size, 1), (1, size + 1, 1), (1, size - 1, 2)]:
                plan = PLAN[direction](rows, columns, rounds, [0] * (2 * (rows * columns - 1)))
                wanted = [min(rounds[1], size), length, size, size]
                self.assertEqual([plan.distance(k) for k in range(4)], wanted)


class Stored:
    """Two patches in a large patch, encoded in a joint state."""

    def __init__(self, source, direction, rows, columns, paulis):
        self.source = source
        self.model = JointModel(direction, rows, columns)
        self.signs = random_signs(source, direction, rows, columns)
        self.width = len(self.model.data) + len(self.model.sites)
        ends = self.model.ends()
        generators = [(2 * sign, *end) for sign, end in zip(self.signs, ends)]
        generators += [self.logical(p) for p in paulis]
        free = [self.model.number(place) for place in self.model.seam]
        free += list(range(len(self.model.data), self.width))
        # The seam and the helpers are in any states of their own.
        for q in free:
            x, z = source.choice([(1, 0), (0, 1), (1, 1)])
            generators.append((2 * source.randrange(2), x << q, z << q))
        self.state = state_of(self.width, generators)

    def logicals(self):
        """The X logicals and the Z logicals of both patches."""
        rows, columns, by = self.model.rows, self.model.columns, (0, self.model.columns + 1)
        if self.model.direction == "wide":
            x_places = [[(r, first) for r in range(rows)] for first in by]
            z_places = [[(0, first + c) for c in range(columns)] for first in by]
        else:
            x_places = [[(first + r, 0) for r in range(rows)] for first in (0, rows + 1)]
            z_places = [[(first, c) for c in range(columns)] for first in (0, rows + 1)]
        masks = self.model.mask
        return [(0, masks(some), 0) for some in x_places], [(0, 0, masks(some)) for some in z_places]

    def logical(self, p):
        """The operator that belongs to one on the two logical qubits."""
        power, x, z = p
        x_logicals, z_logicals = self.logicals()
        result = (power, 0, 0)
        for k in range(2):
            if x >> k & z >> k & 1:
                result = pauli_mul(result, (1, 0, 0))
            for mask, one in ((x, x_logicals[k]), (z, z_logicals[k])):
                if mask >> k & 1:
                    result = pauli_mul(result, one)
        return result

    def live(self, plan, faults):
        """All readings; of the last three ends, each is measured on a copy."""
        coins = model.random_bits(self.source, self.source.choice([0, 10, 400]))
        bits = run_state(self.state, plan.ops(), faults, coins)
        ends = plan.ends()
        for x, z in ends[:-3]:
            bits.append(self.state.measure((0, x, z), self.source.randrange(2))[0])
        for x, z in ends[-3:]:
            bits.append(self.state.duplicate().measure((0, x, z), self.source.randrange(2))[0])
        return bits


def product_letters(direction):
    """The operators XX, XI, IX and ZZ for the wide direction, and the same with X and Z exchanged for the tall one."""
    if PRODUCT[direction] == "X":
        return [(0, 3, 0), (0, 1, 0), (0, 2, 0), (0, 0, 3)]
    return [(0, 0, 3), (0, 0, 1), (0, 0, 2), (0, 3, 0)]


def outcome(expectation):
    return {1: 0, -1: 1}[expectation]


class WithoutFaultsTest(unittest.TestCase):
    """Point 15.5."""

    def check(self, source, direction, size, rounds, paulis):
        stored = Stored(source, direction, *size, paulis)
        plan = PLAN[direction](*size, rounds, stored.signs)
        both, first, second, other = [stored.logical(p) for p in product_letters(direction)]
        before = {p: stored.state.expectation(p) for p in (both, first, second, other)}
        bits = stored.live(plan, [])
        self.assertEqual(len(bits), plan.readings())
        for letter in "XZ":
            self.assertEqual(plan.fired(bits, letter), [])
        self.assertEqual(stored.state.expectation(both), [1, -1][plan.value(bits, 0)])
        if before[both]:
            self.assertEqual(plan.value(bits, 0), outcome(before[both]))
        for p, k in ((first, 2), (second, 3)):
            if before[p]:
                self.assertEqual(stored.state.expectation(p), before[p])
                self.assertEqual(plan.value(bits, k), outcome(before[p]))
        if before[other]:
            self.assertEqual(plan.value(bits, 1), outcome(before[other]))
            seam_bit = bits[plan.observables()[1][1][0]]
            self.assertEqual(stored.state.expectation(other), before[other] * [1, -1][seam_bit])
        for k in range(4):
            self.assertEqual(plan.decoded(bits, k), (plan.value(bits, k), [], []))
        return before, plan.value(bits, 0)

    def test_states_in_several_logical_states(self):
        source = random.Random(2)
        seen = set()
        for direction, size, rounds in (("wide", (2, 3), (1, 2, 1)), ("wide", (3, 3), (2, 3, 1)),
                                        ("tall", (3, 2), (1, 2, 1)),
                                        ("tall", (3, 3), (1, 2, 2))):
            for texts in (("XI", "IX"), ("ZI", "IZ"), ("XX", "ZZ"), ("XZ", "ZX"), ("ZI", "IX"), ("YI", "IY"),
                          ("YX", "ZY")):
                for signs in ((0, 0), (0, 2), (2, 0), (2, 2)):
                    paulis = [model.to_masks((sign, letters)) for sign, letters in zip(signs, texts)]
                    _, value = self.check(source, direction, size, rounds, paulis)
                    seen.add((direction, texts, signs, value))
        # If the product is determined the outcome is, too; each value occurs.
        self.assertEqual({value for _, texts, signs, value in seen if texts == ("XX", "ZZ")}, {0, 1})

    def test_random_states(self):
        source = random.Random(3)
        for direction in ("wide", "tall"):
            for size in SIZES[direction][:4]:
                for _ in range(4):
                    self.check(source, direction, size, source.choice(ROUNDS[:3]), random_paulis(source, 2))

    def test_the_outcome_may_be_random(self):
        """Both values occur for a state in which the product is not determined."""
        source = random.Random(4)
        for direction, size, texts in (("wide", (2, 3), ("ZI", "IZ")), ("tall", (3, 2), ("XI", "IX"))):
            paulis = [model.to_masks((0, letters)) for letters in texts]
            values = {self.check(source, direction, size, (1, 2, 1), paulis)[1] for _ in range(20)}
            self.assertEqual(values, {0, 1})


class WithFaultsTest(unittest.TestCase):
    """Point 15.6: bearable faults leave the outcome and the kept values right."""

    def check_flips(self, plan, bits, faults, k):
        """Readings in which nothing is fired keep their value under faults of the letter of an observable."""
        struck = [bit ^ flip for bit, flip in zip(bits, plan.flips(faults))]
        self.assertEqual(plan.decoded(struck, k)[0], plan.value(bits, k))

    def lived(self, source, direction, size, rounds):
        """A plan, and the readings of a life of any state without faults."""
        stored = Stored(source, direction, *size, random_paulis(source, 2))
        plan = PLAN[direction](*size, rounds, stored.signs)
        return plan, stored.live(plan, [])

    def test_every_single_fault(self):
        source = random.Random(5)
        for direction in ("wide", "tall"):
            plan, bits = self.lived(source, direction, (3, 3), (1, 3, 1))
            ops = plan.ops()
            for at in range(len(ops)):
                for letters in ("X", "Z", "XZ"):
                    fault = source.choice(with_letters(ops, at, letters))
                    for k in range(4) if letters == "XZ" else [source.randrange(4)]:
                        self.check_flips(plan, bits, [fault], k)

    def test_as_many_faults_as_are_bearable(self):
        source = random.Random(6)
        for direction, size, rounds, times in (
                ("wide", (3, 3), (1, 4, 2), 20), ("tall", (3, 3), (2, 3, 1), 20), ("wide", (5, 5), (1, 5, 1), 10),
                ("tall", (5, 5), (1, 5, 1), 10), ("wide", (2, 5), (1, 6, 2), 10), ("tall", (5, 2), (2, 5, 1), 10),
                ("wide", (5, 3), (1, 2, 1), 10), ("tall", (3, 5), (1, 2, 1), 10), ("wide", (7, 7), (1, 7, 1), 2)):
            plan, bits = self.lived(source, direction, size, rounds)
            ops = plan.ops()
            for k in range(4):
                letter = plan.observables()[k][0]
                most = min((plan.distance(k) - 1) // 2, 5)
                for _ in range(times):
                    faults = [source.choice(with_letters(ops, source.randrange(len(ops)),
                                                         source.choice([letter, "XZ"])))
                              for _ in range(most)]
                    faults += [source.choice(with_letters(ops, source.randrange(len(ops)), OTHER[letter]))
                               for _ in range(5)]
                    source.shuffle(faults)
                    self.check_flips(plan, bits, faults, k)

    def check_state(self, source, direction, size, rounds, paulis, k):
        """The readings of a state with faults give the value that an operator had, that of observable k."""
        stored = Stored(source, direction, *size, paulis)
        plan = PLAN[direction](*size, rounds, stored.signs)
        both, first, second, other = product_letters(direction)
        value = stored.state.expectation(stored.logical([both, other, first, second][k]))
        ops = plan.ops()
        faults = [source.choice(with_letters(ops, source.randrange(len(ops)), plan.observables()[k][0]))
                  for _ in range((plan.distance(k) - 1) // 2)]
        self.assertEqual(plan.decoded(stored.live(plan, faults), k)[0], outcome(value), (faults, k))

    def test_states_with_faults(self):
        source = random.Random(7)
        for direction, size, rounds, times in (("wide", (3, 3), (1, 3, 1), 8), ("tall", (3, 3), (1, 3, 1), 8),
                                               ("wide", (3, 5), (1, 5, 1), 2), ("tall", (5, 3), (1, 5, 1), 2)):
            letter = PRODUCT[direction]
            for texts, ks in ((("I" + letter, letter + "I"), (0, 2, 3)), (("XX", "ZZ"), (0, 1))):
                for k in ks:
                    for _ in range(times):
                        paulis = [model.to_masks((source.choice([0, 2]), text)) for text in texts]
                        self.check_state(source, direction, size, rounds, paulis, k)

    def test_ends_that_are_measured_together_commute(self):
        for direction, rows, columns in all_sizes():
            ends = PLAN[direction](rows, columns, (1, 2, 1), [0] * (2 * (rows * columns - 1))).ends()
            for x, z in ends[:-3]:
                for other_x, other_z in ends:
                    self.assertTrue(commute((0, x, z), (0, other_x, other_z)))

    def test_each_graph_is_one(self):
        for direction, rows, columns in all_sizes():
            plan = PLAN[direction](rows, columns, (1, 2, 1), [0] * (2 * (rows * columns - 1)))
            for k in range(4):
                nodes, _ = plan.graph(k)
                letter = plan.observables()[k][0]
                self.assertEqual(nodes, sum(other == letter for other, _, _ in plan.detectors()))


if __name__ == "__main__":
    unittest.main()
