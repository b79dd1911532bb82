"""Slow and plain models of what DOC.md describes, written without the package.

A model operator is a tuple (power, letters) of a power of i and a text with one letter for each qubit.
A model group is a dict from the letters of its operators to their powers, with all operators in it.
"""

from itertools import combinations
from random import Random

LETTER_PRODUCTS = {
    ("X", "Y"): (1, "Z"), ("Y", "Z"): (1, "X"), ("Z", "X"): (1, "Y"),
    ("Y", "X"): (3, "Z"), ("Z", "Y"): (3, "X"), ("X", "Z"): (3, "Y"),
}

ONE_QUBIT_IMAGES = {
    "H": {"X": (0, "Z"), "Z": (0, "X"), "Y": (2, "Y")},
    "S": {"X": (0, "Y"), "Y": (2, "X"), "Z": (0, "Z")},
    "X": {"X": (0, "X"), "Y": (2, "Y"), "Z": (2, "Z")},
    "Y": {"X": (2, "X"), "Y": (0, "Y"), "Z": (2, "Z")},
    "Z": {"X": (2, "X"), "Y": (2, "Y"), "Z": (0, "Z")},
}

# cx stands there more than once, so that it is chosen more often.
OPERATIONS = ["wait", "zero", "plus", "read_z", "read_x", "cx", "cx", "cx"]


def letter_product(a, b):
    if a == "I" or b == "I":
        return (0, a if b == "I" else b)
    return (0, "I") if a == b else LETTER_PRODUCTS[a, b]


def product(a, b):
    power = a[0] + b[0]
    letters = ""
    for one, two in zip(a[1], b[1]):
        more, letter = letter_product(one, two)
        power += more
        letters += letter
    return (power % 4, letters)


def product_of(width, operators):
    result = (0, "I" * width)
    for operator in operators:
        result = product(result, operator)
    return result


def commute(a, b):
    return product(a, b) == product(b, a)


def negative(a):
    return ((a[0] + 2) % 4, a[1])


def single(width, places):
    return "".join(places.get(q, "I") for q in range(width))


def to_masks(operator):
    power, letters = operator
    x = sum(1 << q for q, letter in enumerate(letters) if letter in "XY")
    z = sum(1 << q for q, letter in enumerate(letters) if letter in "ZY")
    return (power, x, z)


def from_masks(width, p):
    power, x, z = p
    return (power, "".join("IXZY"[(x >> q & 1) + 2 * (z >> q & 1)] for q in range(width)))


def all_letters(width):
    texts = [""]
    for _ in range(width):
        texts = [text + letter for text in texts for letter in "IXYZ"]
    return texts


def cx_image(width, control, target, letter_at, letter):
    """The image of one letter under CX, from those of X and Z; Y is i X Z."""
    images = {
        (control, "X"): (0, single(width, {control: "X", target: "X"})),
        (control, "Z"): (0, single(width, {control: "Z"})),
        (target, "X"): (0, single(width, {target: "X"})),
        (target, "Z"): (0, single(width, {control: "Z", target: "Z"})),
    }
    if letter == "Y":
        both = product(images[letter_at, "X"], images[letter_at, "Z"])
        return ((both[0] + 1) % 4, both[1])
    return images[letter_at, letter]


def letter_image(gate, width, at, letter):
    if letter == "I" or at not in gate[1:]:
        return (0, single(width, {at: letter}))
    if gate[0] == "CX":
        return cx_image(width, gate[1], gate[2], at, letter)
    power, image = ONE_QUBIT_IMAGES[gate[0]][letter]
    return (power, single(width, {at: image}))


def image(gate, operator):
    power, letters = operator
    width = len(letters)
    parts = [letter_image(gate, width, at, letter) for at, letter in enumerate(letters)]
    more, result = product_of(width, parts)
    return ((power + more) % 4, result)


def group_of(width, generators):
    group = [(0, "I" * width)]
    for generator in generators:
        group = group + [product(one, generator) for one in group]
    return dict((letters, power) for power, letters in group)


class ModelState:
    """A stabilizer state, as the dict of its whole group."""

    def __init__(self, width, generators):
        self.width = width
        self.group = group_of(width, generators)

    def replace(self, operators):
        self.group = dict((letters, power) for power, letters in operators)

    def operators(self):
        return [(power, letters) for letters, power in self.group.items()]

    def apply(self, gate):
        self.replace([image(gate, one) for one in self.operators()])

    def strike(self, p):
        self.replace([one if commute(one, p) else negative(one) for one in self.operators()])

    def expectation(self, p):
        if p[1] not in self.group:
            return 0
        return 1 if self.group[p[1]] == p[0] else -1

    def measure(self, p, coin):
        value = self.expectation(p)
        if value:
            return ((1 - value) // 2, False)
        kept = [one for one in self.operators() if commute(one, p)]
        new = negative(p) if coin else p
        self.replace(kept + [product(one, new) for one in kept])
        return (coin, True)

    def reset(self, qubit, coin):
        if self.measure((0, single(self.width, {qubit: "Z"})), coin)[0] == 1:
            self.apply(("X", qubit))


def span_of(masks):
    """All sums of some of the masks, as a set, straight from the words of point 1.2."""
    sums = set()
    for count in range(len(masks) + 1):
        for some in combinations(masks, count):
            total = 0
            for mask in some:
                total ^= mask
            sums.add(total)
    return sums


def odd(mask):
    return bin(mask).count("1") % 2


class ModelFrame:
    """A frame as sets of qubits, moved operation by operation."""

    def __init__(self):
        self.x = set()
        self.z = set()
        self.flips = []

    def strike(self, fault):
        self.x ^= set(members(fault[1]))
        self.z ^= set(members(fault[2]))

    def execute(self, op):
        kind, qubits = op[0], op[1:]
        if kind in ("zero", "plus"):
            self.x.discard(qubits[0])
            self.z.discard(qubits[0])
        if kind == "cx":
            control, target = qubits
            if control in self.x:
                self.x ^= {target}
            if target in self.z:
                self.z ^= {control}
        if kind == "read_z":
            self.flips.append(1 if qubits[0] in self.x else 0)
        if kind == "read_x":
            self.flips.append(1 if qubits[0] in self.z else 0)


def members(mask):
    return [k for k, digit in enumerate(reversed(bin(mask)[2:])) if digit == "1"]


def frame(ops, faults):
    """The final frame of point 6.6, as a tuple (flips, x, z)."""
    result = ModelFrame()
    for at, op in enumerate(ops):
        before = op[0].startswith("read")
        if not before:
            result.execute(op)
        for fault in faults:
            if fault[0] == at:
                result.strike(fault)
        if before:
            result.execute(op)
    return (result.flips, sum(2 ** q for q in result.x), sum(2 ** q for q in result.z))


def edge_sets(graph):
    """All ascending lists of edges of a graph, the shorter ones first."""
    return [list(some) for count in range(len(graph[1]) + 1) for some in combinations(range(len(graph[1])), count)]


def odd_ends(graph, edges):
    """The nodes at which an odd number of the edges end, straight from the words of point 7.7."""
    nodes, listed = graph
    return [node for node in range(nodes) if sum(node in listed[k][:2] for k in edges) % 2 == 1]


def flip_of(graph, edges):
    return sum(graph[1][k][2] for k in edges) % 2


def leaves(edge, mask):
    """Whether exactly one end of an edge is a member; the boundary never is, as masks have nodes only."""
    return (mask & 1 << edge[0] != 0) != (mask & 1 << edge[1] != 0)


def random_graph(source, nodes, count):
    """A graph with at most count different edges."""
    edges = set()
    for _ in range(count):
        a, b = sorted(source.sample(range(nodes + 1), 2))
        edges.add((a, b, source.randrange(2)))
    return (nodes, tuple(sorted(edges)))


def small_graphs(seed, count, most_nodes, most_edges):
    """Random graphs, from graphs with hardly any edges to full ones, and some special ones."""
    source = Random(seed)
    special = [
        (0, ()), (1, ()), (3, ()), (1, ((0, 1, 0),)), (1, ((0, 1, 0), (0, 1, 1))), (2, ((0, 1, 0),)),
        (2, ((0, 1, 0), (0, 1, 1))), (2, ((0, 1, 1), (0, 2, 0), (1, 2, 0))), (4, ((0, 1, 0), (2, 3, 1))),
    ]
    chosen = [
        random_graph(source, source.randint(1, most_nodes), source.randint(0, most_edges)) for _ in range(count)
    ]
    return special + chosen


def is_least_shown(graph, fired, size, cuts):
    """Point 8.3, straight from its words."""
    right = all(len(set(members(mask)) & set(fired)) % 2 == 1 for mask in cuts)
    often = [sum(leaves(edge, mask) for mask in cuts) for edge in graph[1]]
    return len(cuts) == 2 * size and right and max(often, default=0) <= 2


def random_ops(source, width, count):
    ops = []
    for _ in range(count):
        kind = source.choice(OPERATIONS)
        ops.append((kind, *source.sample(range(width), 2 if kind == "cx" else 1)))
    return ops


def random_fault(source, ops, at):
    """Any fault of an operation."""
    while True:
        x, z = [sum(source.choice([0, 2 ** q]) for q in ops[at][1:]) for _ in range(2)]
        if x or z:
            return (at, x, z)


def random_faults(source, ops, count):
    return [random_fault(source, ops, source.randrange(len(ops))) for _ in range(count)]


def random_bits(source, count):
    return [source.randrange(2) for _ in range(count)]


def in_order(letters, signs):
    """The signs of checks in the order of their letters, from those of all X checks and then of all Z checks."""
    x_signs = list(signs[:list(letters).count("X")])
    z_signs = list(signs[len(x_signs):])
    return [x_signs.pop(0) if letter == "X" else z_signs.pop(0) for letter in letters]


def cost_of(free, edges):
    """Point 12.3: how many of the edges are not free."""
    return len(set(edges) - set(free))


def is_cheapest_shown(graph, free, fired, size, cuts):
    """Point 12.4, straight from its words."""
    right = all(len(set(members(mask)) & set(fired)) % 2 == 1 for mask in cuts)
    often = [sum(leaves(edge, mask) for mask in cuts) for edge in graph[1]]
    fits = all(many <= (0 if k in free else 2) for k, many in enumerate(often))
    return len(cuts) == 2 * size and right and fits
