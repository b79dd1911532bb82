"""The operations that read out the checks of a patch."""

from bastion.errors import InvalidSize
from bastion.patch import corners, touched

# The places, in what touched returns, of the data qubits that the four layers couple with a check.
LAYERS = {"X": (0, 1, 2, 3), "Z": (0, 2, 1, 3)}


def qubits_of(op):
    """Returns the tuple of the qubits of an operation."""
    return op[1:]


def moved_op(op, by):
    """Returns an operation with each qubit replaced by the one that is greater by the given number."""
    return (op[0],) + tuple([q + by for q in qubits_of(op)])


def preparation(letter, helper):
    """Returns the operation that resets the helper of a check."""
    return ("plus" if letter == "X" else "zero", helper)


def coupling(letter, helper, qubit):
    """Returns the operation that couples the helper of a check with a data qubit."""
    return ("cx", helper, qubit) if letter == "X" else ("cx", qubit, helper)


def reading(letter, helper):
    """Returns the operation that reads the helper of a check."""
    return ("read_x" if letter == "X" else "read_z", helper)


def layer_ops(checks, layer):
    """Returns the couplings of one layer."""
    couples = [(letter, helper, places[LAYERS[letter][layer]]) for letter, helper, places in checks]
    return [coupling(letter, helper, qubit) for letter, helper, qubit in couples if qubit >= 0]


def check_round(waiting, checks):
    """Returns one round, for the qubits that wait and for checks (letter, helper, four touched qubits)."""
    ops = [("wait", q) for q in waiting]
    ops.extend([preparation(letter, helper) for letter, helper, _ in checks])
    for layer in range(4):
        ops.extend(layer_ops(checks, layer))
    ops.extend([reading(letter, helper) for letter, helper, _ in checks])
    return ops


def round_ops(rows, columns):
    """Returns the list of the operations of one round of a patch."""
    count = rows * columns
    checks = [
        (letter, count + k, touched(rows, columns, i, j))
        for k, (letter, i, j) in enumerate(corners(rows, columns))
    ]
    return check_round(list(range(count)), checks)


def life_ops(rows, columns, rounds):
    """Returns the list of the operations of all rounds of the life of a patch."""
    if rounds < 1:
        raise InvalidSize("a life has at least one round")
    return round_ops(rows, columns) * rounds
