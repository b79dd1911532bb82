"""Plans, lists of operations whose outcomes can be checked against each other."""

from bastion.bits import members
from bastion.circuit import life_ops
from bastion.code import check_bits
from bastion.distance import fault_distance
from bastion.errors import NotAGraph
from bastion.faults import is_reading, run_frame, simple_effects
from bastion.graph import edge_between, total_flip
from bastion.joins import least_join
from bastion.memory import OTHER_LETTERS
from bastion.patch import corner_paulis, corners, patch
from bastion.pauli import commute


def sum_of(bits, numbers):
    """Returns the sum modulo 2 of the bits with the given numbers."""
    return sum([bits[number] for number in numbers]) % 2


def edge_for(effect, nodes):
    """Returns the edge of a fault; below the bit for the flip, its effect has one for each node that it fires."""
    fired = [node for node in members(effect) if node < nodes]
    if len(fired) not in (1, 2):
        raise NotAGraph("a fault fires no node or more than two nodes")
    return edge_between(fired, nodes, effect >> nodes)


class Plan:
    """Operations, ends that are measured without faults, and what is to be looked at in their readings."""

    def __init__(self, ops, ends, detectors, observables):
        self._ops = list(ops)
        self._ends = list(ends)
        self._detectors = [(letter, list(numbers), due) for letter, numbers, due in detectors]
        self._observables = [(letter, list(numbers)) for letter, numbers in observables]
        # The graphs that have been asked for so far, by the number of the observable.
        self._graphs = {}

    def ops(self):
        """Returns the list of the operations."""
        return list(self._ops)

    def ends(self):
        """Returns the list of the ends."""
        return list(self._ends)

    def detectors(self):
        """Returns the list of the detectors."""
        return [(letter, list(numbers), due) for letter, numbers, due in self._detectors]

    def observables(self):
        """Returns the list of the observables."""
        return [(letter, list(numbers)) for letter, numbers in self._observables]

    def readings(self):
        """Returns the number of all readings."""
        return self._early_readings() + len(self._ends)

    def _early_readings(self):
        """Returns the number of the readings among the operations."""
        return len([op for op in self._ops if is_reading(op)])

    def flips(self, faults):
        """Returns the list of the bits by which faults invert the readings."""
        flips, x, z = run_frame(self._ops, faults)
        return flips + [int(not commute((0, x, z), (0, end_x, end_z))) for end_x, end_z in self._ends]

    def _nodes(self, letter):
        """Returns the list of the detectors of a letter, as pairs (numbers, due)."""
        return [(numbers, due) for other, numbers, due in self._detectors if other == letter]

    def fired(self, bits, letter):
        """Returns the ascending list of the nodes of a letter that the readings fire."""
        return [node for node, (numbers, due) in enumerate(self._nodes(letter)) if sum_of(bits, numbers) != due]

    def value(self, bits, k):
        """Returns the value of observable number k."""
        return sum_of(bits, self._observables[k][1])

    def graph(self, k):
        """Returns the graph of the plan for the letter of observable number k."""
        if k not in self._graphs:
            self._graphs[k] = self._made_graph(k)
        return self._graphs[k]

    def _made_graph(self, k):
        """Makes the graph of observable number k."""
        letter = self._observables[k][0]
        nodes = len(self._nodes(letter))
        marks = self._marks(k)
        if any(self._effects(OTHER_LETTERS[letter], marks)):
            raise NotAGraph("a fault of the other letter fires a node or inverts the observable")
        effects = self._effects(letter, marks)
        return (nodes, tuple(sorted({edge_for(effect, nodes) for effect in effects if effect})))

    def _marks(self, k):
        """Returns a mask for each reading: its members are the nodes of observable k that the reading is part of.

        The number of the nodes is a member if the reading is part of the observable itself.
        """
        letter, chosen = self._observables[k]
        parts = [numbers for numbers, _ in self._nodes(letter)] + [chosen]
        marks = [0] * self.readings()
        for member, numbers in enumerate(parts):
            for number in numbers:
                marks[number] |= 1 << member
        return marks

    def _effects(self, letter, marks):
        """Returns, for each fault of simple_faults, the exclusive or of the marks of the readings that it inverts."""
        count = self._early_readings()
        changed = {}
        for mark, (x, z) in zip(marks[count:], self._ends):
            for q in members(z if letter == "X" else x):
                changed[q] = changed.get(q, 0) ^ mark
        return simple_effects(self._ops, letter, marks[:count], changed)

    def distance(self, k):
        """Returns the fault distance of the graph of observable number k."""
        return fault_distance(self.graph(k))

    def decoded(self, bits, k):
        """Returns the corrected value of observable number k, a least join of the fired nodes, and its cuts."""
        check_bits(bits, self.readings())
        graph = self.graph(k)
        edges, cuts = least_join(graph, self.fired(bits, self._observables[k][0]))
        return (self.value(bits, k) ^ total_flip(graph, edges), edges, cuts)


def row_detectors(letters, t, signs):
    """Returns the detectors of the nodes of row t of a life, for the letters of its checks."""
    count = len(letters)
    found = []
    for k, letter in enumerate(letters):
        number = (t - 1) * count + k
        # Row 0 is no reading, but the signs.
        numbers = [number - count, number] if t > 1 else [number]
        found.append((OTHER_LETTERS[letter], numbers, 0 if t > 1 else signs[k]))
    return found


def life_plan(rows, columns, rounds, signs):
    """Returns the plan of the life of a patch."""
    ops = life_ops(rows, columns, rounds)
    letters = [letter for letter, _, _ in corners(rows, columns)]
    check_bits(signs, len(letters))
    code = patch(rows, columns)
    ends = [(x, z) for _, x, z in corner_paulis(rows, columns)]
    ends.extend([(0, code.z_logicals[0]), (code.x_logicals[0], 0)])
    detectors = []
    for t in range(1, rounds + 2):
        detectors.extend(row_detectors(letters, t, signs))
    behind = (rounds + 1) * len(letters)
    return Plan(ops, ends, detectors, [("X", [behind]), ("Z", [behind + 1])])
