"""Part 3: stabilizer states, against a model that keeps the whole group."""

import random
import time
import unittest

from bastion.bits import echelon
from bastion.errors import InvalidGate, InvalidState
from bastion.pauli import negated, pauli_mul, product_of, read_pauli, shifted
from bastion.state import State, joined_state, state_of
from tests import model

X, Y, Z = (0, 1, 0), (0, 1, 1), (0, 0, 1)


def read(*texts):
    return [read_pauli(text) for text in texts]


def all_gates(width):
    gates = [(kind, q) for kind in "HSXYZ" for q in range(width)]
    return gates + [("CX", a, b) for a in range(width) for b in range(width) if a != b]


def hermitian(width):
    return [(power, letters) for power in (0, 2) for letters in model.all_letters(width)]


class Pair:
    """A state of the package and a model of it."""

    def __init__(self, test, state, ours):
        self.test = test
        self.state = state
        self.ours = ours

    def check(self):
        width = self.ours.width
        self.test.assertEqual(self.state.width, width)
        for one in hermitian(width):
            self.test.assertEqual(self.state.expectation(model.to_masks(one)), self.ours.expectation(one))
        self.check_stabilizers()

    def check_stabilizers(self):
        width = self.ours.width
        listed = self.state.stabilizers()
        masks = [x << width | z for _, x, z in listed]
        group = [model.to_masks(one) for one in self.ours.operators()]
        self.test.assertIs(type(listed), list)
        self.test.assertEqual(masks, echelon([x << width | z for _, x, z in group]))
        self.test.assertEqual(len(listed), width)
        self.test.assertTrue(all(p in group for p in listed))


def random_pair(test, source, width):
    """A pair with many gates behind it."""
    pair = Pair(test, State(width), zero_model(width))
    gates = all_gates(width)
    for _ in range(6 * width):
        gate = source.choice(gates)
        pair.state.apply(gate)
        pair.ours.apply(gate)
    return pair


def zero_model(width):
    return model.ModelState(width, [(0, model.single(width, {q: "Z"})) for q in range(width)])


class CreationTest(unittest.TestCase):

    def test_all_qubits_are_zero(self):
        for width in (1, 2, 3):
            Pair(self, State(width), zero_model(width)).check()
        self.assertEqual(State(3).stabilizers(), [(0, 0, 4), (0, 0, 2), (0, 0, 1)])

    def test_the_width_is_an_integer(self):
        self.assertEqual(State(7).width, 7)
        self.assertIs(type(State(1).width), int)

    def test_width_below_1(self):
        for width in (0, -1, -60):
            with self.assertRaises(InvalidState):
                State(width)

    def test_state_of_mixed_generators(self):
        for texts in (["-X"], ["+Y"], ["+XX", "-ZZ"], ["-YY", "-XX"], ["+ZI", "-ZZ"], ["+XXX", "+ZZI", "-IZZ"],
                      ["-XZI", "+ZXZ", "-IZX"], ["+IIZ", "-XII", "-IYI"]):
            paulis = read(*texts)
            before = list(paulis)
            state = state_of(len(texts), paulis)
            self.assertEqual(paulis, before)
            ours = model.ModelState(len(texts), [model.from_masks(len(texts), p) for p in paulis])
            Pair(self, state, ours).check()

    def test_random_generators(self):
        source = random.Random(1)
        for width in (1, 2, 3, 4):
            for _ in range(12):
                pair = random_pair(self, source, width)
                generators = mixed(source, pair.state.stabilizers())
                state = state_of(width, generators)
                self.assertTrue(state.same_as(pair.state))
                Pair(self, state, pair.ours).check()

    def test_a_state_from_generators_can_be_changed(self):
        source = random.Random(2)
        for _ in range(20):
            start = random_pair(self, source, 3)
            pair = Pair(self, state_of(3, mixed(source, start.state.stabilizers())), start.ours)
            walk(pair, source, 12)
            pair.check()

    def test_a_later_change_of_the_list_has_no_effect(self):
        paulis = read("+XX", "+ZZ")
        state = state_of(2, paulis)
        paulis[0] = read_pauli("-XX")
        paulis.append((0, 0, 0))
        self.assertEqual(state.stabilizers(), read("+XX", "+ZZ"))

    def test_invalid_states(self):
        for width, texts in (
            (0, []), (-1, []), (0, ["+X"]),
            (1, ["+IX"]), (1, ["+IZ"]), (1, ["+IY"]), (2, ["+XI", "+IIZ"]),
            (1, ["+iX"]), (1, ["-iZ"]), (2, ["+XX", "+iZZ"]),
            (2, ["+XI", "+ZI"]), (2, ["+XX", "+ZI"]), (3, ["+XII", "+IXI", "+ZIZ"]),
            (1, []), (2, ["+XX"]), (3, ["+ZII", "+IZI"]),
            (1, ["+Z", "+Z"]), (2, ["+XX", "+ZZ", "-YY"]), (2, ["+ZI", "+IZ", "+ZZ"]),
            (2, ["+XX", "+XX"]), (2, ["+XX", "-XX"]), (3, ["+XXI", "+IXX", "+XIX"]),
            (1, ["+I"]), (1, ["-I"]), (2, ["+ZI", "+II"]), (2, ["-II", "+XX"]),
        ):
            with self.assertRaises(InvalidState, msg=repr((width, texts))):
                state_of(width, read(*texts))


def mixed(source, generators):
    """Other generators of the same group."""
    generators = list(generators)
    for _ in range(10):
        a, b = source.randrange(len(generators)), source.randrange(len(generators))
        if a != b:
            generators[a] = pauli_mul(generators[a], generators[b])
    source.shuffle(generators)
    return generators


def walk(pair, source, steps):
    """Does the same random things to both of a pair, and compares what they return."""
    width = pair.ours.width
    for _ in range(steps):
        kind = source.randrange(4)
        if kind == 0:
            gate = source.choice(all_gates(width))
            pair.test.assertIsNone(pair.state.apply(gate))
            pair.ours.apply(gate)
        elif kind == 1:
            one = (source.randrange(4), source.choice(model.all_letters(width)))
            pair.test.assertIsNone(pair.state.strike(model.to_masks(one)))
            pair.ours.strike(one)
        elif kind == 2:
            one = (source.choice((0, 2)), source.choice(model.all_letters(width)[1:]))
            coin = source.randrange(2)
            pair.test.assertEqual(pair.state.measure(model.to_masks(one), coin), pair.ours.measure(one, coin))
        else:
            qubit, coin = source.randrange(width), source.randrange(2)
            pair.test.assertIsNone(pair.state.reset(qubit, coin))
            pair.ours.reset(qubit, coin)


class GateTest(unittest.TestCase):

    def check_image(self, texts, gate, images):
        state = state_of(len(texts), read(*texts))
        self.assertIsNone(state.apply(gate))
        self.assertTrue(state.same_as(state_of(len(texts), read(*images))), (texts, gate))

    def test_each_gate_on_each_letter(self):
        for gate, images in (
            ("H", {"+X": "+Z", "+Z": "+X", "+Y": "-Y", "-X": "-Z", "-Z": "-X", "-Y": "+Y"}),
            ("S", {"+X": "+Y", "+Y": "-X", "+Z": "+Z", "-X": "-Y", "-Y": "+X", "-Z": "-Z"}),
            ("X", {"+X": "+X", "+Y": "-Y", "+Z": "-Z", "-X": "-X", "-Y": "+Y", "-Z": "+Z"}),
            ("Y", {"+X": "-X", "+Y": "+Y", "+Z": "-Z", "-X": "+X", "-Y": "-Y", "-Z": "+Z"}),
            ("Z", {"+X": "-X", "+Y": "-Y", "+Z": "+Z", "-X": "+X", "-Y": "+Y", "-Z": "-Z"}),
        ):
            for text, image in images.items():
                self.check_image([text], (gate, 0), [image])

    def test_cx_on_letters(self):
        self.check_image(["+XI", "+IZ"], ("CX", 0, 1), ["+XX", "+ZZ"])
        self.check_image(["+ZI", "+IX"], ("CX", 0, 1), ["+ZI", "+IX"])
        self.check_image(["+XI", "+IZ"], ("CX", 1, 0), ["+XI", "+IZ"])
        self.check_image(["+XX", "+ZZ"], ("CX", 0, 1), ["+XI", "+IZ"])
        self.check_image(["-YI", "+IY"], ("CX", 0, 1), ["-YX", "+ZY"])
        self.check_image(["+XZ", "+ZX"], ("CX", 0, 1), ["-YY", "+ZX"])

    def test_each_gate_on_all_operators_and_signs(self):
        """Each operator is put into a state of two qubits, and followed through each gate."""
        for one in hermitian(2):
            if one[1] == "II":
                continue
            fitting = [other for other in hermitian(2) if model.commute(one, other) and other[1] not in ("II", one[1])]
            state = state_of(2, [model.to_masks(one), model.to_masks(fitting[0])])
            for gate in all_gates(2):
                after = state.duplicate()
                after.apply(gate)
                self.assertEqual(after.expectation(model.to_masks(model.image(gate, one))), 1, (one, gate))

    def test_gates_on_several_qubits(self):
        source = random.Random(4)
        for width in (1, 2, 3, 4):
            for _ in range(12):
                random_pair(self, source, width).check()

    def test_a_gate_between_distant_qubits(self):
        state = State(60)
        state.apply(("H", 59))
        state.apply(("CX", 59, 0))
        self.assertEqual(state.expectation((0, 1 | 1 << 59, 0)), 1)
        self.assertEqual(state.expectation((0, 0, 1 | 1 << 59)), 1)
        self.assertEqual(state.expectation((0, 0, 1)), 0)

    def test_invalid_gates(self):
        state = State(3)
        state.apply(("H", 0))
        state.apply(("CX", 0, 1))
        before = state.stabilizers()
        for gate in (
            ("T", 0), ("h", 0), ("", 0), ("CZ", 0, 1), ("cx", 0, 1), ("wait", 0), ("I", 0), ("HS", 0), (), ("T",),
            ("H",), ("CX",), ("H", 0, 1), ("S", 0, 1, 2), ("X", 0, 1), ("Y",), ("Z", 1, 2), ("CX", 0), ("CX", 0, 1, 2),
            ("H", 3), ("S", -1), ("X", 3), ("Y", -3), ("Z", 99), ("CX", 0, 3), ("CX", 3, 0), ("CX", -1, 0),
            ("CX", 1, -1), ("CX", 0, 0), ("CX", 2, 2), ("CX", 3, 3),
        ):
            with self.assertRaises(InvalidGate, msg=repr(gate)):
                state.apply(gate)
            self.assertEqual(state.stabilizers(), before)


class MethodsTest(unittest.TestCase):

    def test_example(self):
        state = State(2)
        state.apply(("H", 0))
        state.apply(("CX", 0, 1))
        self.assertEqual(state.stabilizers(), [(0, 3, 0), (0, 0, 3)])

    def test_examples_of_measure(self):
        self.assertEqual(State(1).measure((0, 1, 0), 1), (1, True))
        self.assertEqual(State(1).measure((2, 0, 1), 0), (1, False))

    def test_strike_with_any_power(self):
        for power in range(4):
            for letters in model.all_letters(2):
                state = state_of(2, read("+XX", "-ZZ"))
                ours = model.ModelState(2, [(0, "XX"), (2, "ZZ")])
                self.assertIsNone(state.strike(model.to_masks((power, letters))))
                ours.strike((power, letters))
                Pair(self, state, ours).check()

    def test_expectation(self):
        state = state_of(2, read("-XX", "+ZZ"))
        wanted = {"-XX": 1, "+XX": -1, "+ZZ": 1, "-ZZ": -1, "+YY": 1, "-YY": -1, "+II": 1, "-II": -1, "+XI": 0,
                  "-ZI": 0, "+XZ": 0, "-IY": 0, "+YX": 0}
        before = state.stabilizers()
        for text, value in wanted.items():
            self.assertEqual(state.expectation(read_pauli(text)), value, text)
            self.assertIs(type(state.expectation(read_pauli(text))), int)
        self.assertEqual(state.stabilizers(), before)

    def test_measure_of_determined_operators_changes_nothing(self):
        for coin in (0, 1):
            state = state_of(2, read("-XX", "+ZZ"))
            before = state.duplicate()
            for text, outcome in (("-XX", 0), ("+XX", 1), ("+YY", 0), ("-YY", 1), ("+ZZ", 0), ("-ZZ", 1)):
                self.assertEqual(state.measure(read_pauli(text), coin), (outcome, False))
                self.assertTrue(state.same_as(before))

    def test_measure_of_open_operators(self):
        for text in ("+XI", "-XI", "+ZI", "-IY", "+XZ", "-YX"):
            for coin in (0, 1):
                state = state_of(2, read("+XX", "+ZZ"))
                p = read_pauli(text)
                self.assertEqual(state.measure(p, coin), (coin, True))
                self.assertEqual(state.expectation(p), 1 - 2 * coin)
                self.assertEqual(state.measure(p, 1 - coin), (coin, False))
                self.assertEqual(state.measure(negated(p), coin), (1 - coin, False))

    def test_measure_keeps_what_commutes(self):
        for coin, wanted in ((0, read("+ZI", "+IZ")), (1, read("-ZI", "-IZ"))):
            state = state_of(2, read("+XX", "+ZZ"))
            state.measure(read_pauli("+ZI"), coin)
            self.assertTrue(state.same_as(state_of(2, wanted)))

    def test_kinds_of_what_measure_returns(self):
        for p, coin in ((X, 0), (X, 1), (Z, 0), ((2, 0, 1), 1)):
            answer = State(1).measure(p, coin)
            self.assertIs(type(answer), tuple)
            self.assertEqual([type(part) for part in answer], [int, bool])

    def test_random_walks(self):
        source = random.Random(5)
        for width in (1, 2, 3, 4):
            for _ in range(15):
                pair = Pair(self, State(width), zero_model(width))
                for _ in range(4):
                    walk(pair, source, 8)
                    pair.check()

    def test_reset_of_a_qubit_alone(self):
        for text in ("+X", "-X", "+Y", "-Y", "+Z", "-Z"):
            for coin in (0, 1):
                state = state_of(1, read(text))
                self.assertIsNone(state.reset(0, coin))
                self.assertEqual(state.stabilizers(), [(0, 0, 1)])

    def test_reset_of_an_entangled_qubit(self):
        for coin, wanted in ((0, read("+ZII", "+IZI", "+IIZ")), (1, read("+ZII", "-IZI", "-IIZ"))):
            state = state_of(3, read("+XXX", "+ZZI", "+IZZ"))
            state.reset(0, coin)
            self.assertTrue(state.same_as(state_of(3, wanted)))

    def test_stabilizers_with_negative_signs(self):
        state = state_of(2, read("-YY", "-XX"))
        self.assertEqual(state.stabilizers(), [(2, 3, 0), (2, 0, 3)])
        self.assertEqual(state_of(1, read("-Y")).stabilizers(), [(2, 1, 1)])
        self.assertEqual(state_of(3, read("-ZII", "+ZZI", "-IZZ")).stabilizers(),
                         [(0, 0, 4), (2, 0, 2), (2, 0, 1)])

    def test_stabilizers_is_a_new_list(self):
        state = State(2)
        state.stabilizers().clear()
        listed = state.stabilizers()
        listed[0] = (2, 3, 3)
        self.assertEqual(state.stabilizers(), [(0, 0, 2), (0, 0, 1)])

    def test_stabilizers_depends_on_the_group_only(self):
        source = random.Random(6)
        for _ in range(20):
            state = random_pair(self, source, 4).state
            other = state_of(4, mixed(source, state.stabilizers()))
            self.assertEqual(other.stabilizers(), state.stabilizers())

    def test_same_as(self):
        bell = state_of(2, read("+XX", "+ZZ"))
        self.assertIs(bell.same_as(bell), True)
        self.assertIs(bell.same_as(state_of(2, read("-YY", "+ZZ"))), True)
        self.assertIs(bell.same_as(state_of(2, read("-YY", "-ZZ"))), False)
        self.assertIs(bell.same_as(state_of(2, read("+XX", "-ZZ"))), False)
        self.assertIs(bell.same_as(State(2)), False)
        self.assertIs(State(2).same_as(bell), False)
        self.assertIs(State(2).same_as(State(3)), False)
        self.assertIs(State(3).same_as(State(2)), False)
        self.assertIs(State(2).same_as(State(2)), True)

    def test_duplicate(self):
        state = state_of(2, read("+XX", "+ZZ"))
        copy = state.duplicate()
        self.assertIs(type(copy), State)
        self.assertIsNot(copy, state)
        self.assertTrue(copy.same_as(state))
        state.strike((0, 1, 0))
        self.assertEqual(copy.stabilizers(), read("+XX", "+ZZ"))
        copy.apply(("H", 0))
        copy.measure((0, 0, 1), 1)
        copy.reset(1, 1)
        self.assertEqual(state.stabilizers(), read("+XX", "-ZZ"))

    def test_a_duplicate_works_as_the_state_does(self):
        source = random.Random(7)
        for _ in range(10):
            pair = random_pair(self, source, 3)
            copy = Pair(self, pair.state.duplicate(), pair.ours)
            walk(copy, source, 10)
            copy.check()


class JoinedStateTest(unittest.TestCase):

    def test_widths_and_groups(self):
        first, second = state_of(2, read("-XX", "+ZZ")), state_of(1, read("-Y"))
        both = joined_state(first, second)
        self.assertIs(type(both), State)
        self.assertEqual(both.width, 3)
        self.assertTrue(both.same_as(state_of(3, read("-XXI", "+ZZI", "-IIY"))))
        other = joined_state(second, first)
        self.assertTrue(other.same_as(state_of(3, read("-YII", "-IXX", "+IZZ"))))

    def test_random_parts(self):
        source = random.Random(9)
        for _ in range(15):
            first, second = random_pair(self, source, 2).state, random_pair(self, source, 2).state
            both = joined_state(first, second)
            generators = first.stabilizers() + [shifted(p, 2) for p in second.stabilizers()]
            self.assertTrue(both.same_as(state_of(4, generators)))
            ours = model.ModelState(4, [model.from_masks(4, p) for p in generators])
            pair = Pair(self, both, ours)
            walk(pair, source, 10)
            pair.check()

    def test_it_does_not_follow_its_parts_nor_they_it(self):
        first, second = State(1), State(1)
        both = joined_state(first, second)
        first.apply(("X", 0))
        second.apply(("H", 0))
        self.assertTrue(both.same_as(State(2)))
        both.apply(("H", 0))
        both.strike((0, 2, 0))
        self.assertEqual(first.stabilizers(), [(2, 0, 1)])
        self.assertEqual(second.stabilizers(), [(0, 1, 0)])

    def test_a_state_joined_with_itself(self):
        state = state_of(1, read("-X"))
        self.assertTrue(joined_state(state, state).same_as(state_of(2, read("-XI", "-IX"))))


class SizeTest(unittest.TestCase):

    def test_60_qubits(self):
        start = time.monotonic()
        state = State(60)
        state.apply(("H", 0))
        for q in range(59):
            state.apply(("CX", q, q + 1))
        self.assertEqual(state.expectation((0, 2 ** 60 - 1, 0)), 1)
        self.assertEqual(state.expectation((0, 0, 2 ** 60 - 1)), 1)
        generators = mixed(random.Random(10), state.stabilizers())
        other = state_of(60, generators)
        self.assertTrue(other.same_as(state))
        self.assertEqual(other.expectation(product_of(generators)), 1)
        for q in range(60):
            other.reset(q, q % 2)
        self.assertTrue(other.same_as(State(60)))
        self.assertLess(time.monotonic() - start, 20)


if __name__ == "__main__":
    unittest.main()
