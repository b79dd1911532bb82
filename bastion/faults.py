"""Faults of a list of operations, and what they do to a run."""

from bastion.bits import mask_of, members
from bastion.circuit import qubits_of

# The letters whose part in a fault inverts a reading of a kind.
INVERTING = {"read_z": "X", "read_x": "Z"}

RESETS = ("zero", "plus")


def is_reading(op):
    """Returns True if an operation is a reading, otherwise False."""
    return op[0] in INVERTING


def is_fault(ops, fault):
    """Returns True if a tuple of three integers is a fault of the operations, otherwise False."""
    at, x, z = fault
    if at < 0 or at >= len(ops) or x < 0 or z < 0:
        return False
    struck = x | z
    allowed = mask_of(qubits_of(ops[at]))
    return struck > 0 and struck & allowed == struck


def moved_fault(fault, by):
    """Returns a fault with each qubit replaced by the one that is greater by the given number."""
    at, x, z = fault
    return (at, x << by, z << by)


def fault_masks(op):
    """Returns the ascending list of the masks of some of the qubits of an operation, at least one."""
    qubits = sorted(qubits_of(op))
    return [mask_of([q for k, q in enumerate(qubits) if choice >> k & 1]) for choice in range(1, 1 << len(qubits))]


def simple_faults(ops, letter):
    """Returns the list of all faults of one letter."""
    places = [(at, mask) for at, op in enumerate(ops) for mask in fault_masks(op)]
    return [(at, mask, 0) if letter == "X" else (at, 0, mask) for at, mask in places]


def total_strikes(faults):
    """Returns, for each index of an operation with faults, the masks (x, z) of all of its faults together."""
    totals = {}
    for at, x, z in faults:
        other_x, other_z = totals.get(at, (0, 0))
        totals[at] = (x ^ other_x, z ^ other_z)
    return totals


def frame_after(op, x, z):
    """Returns the masks of a frame behind an operation."""
    kind = op[0]
    if kind == "cx":
        control, target = qubits_of(op)
        return (x ^ (x >> control & 1) << target, z ^ (z >> target & 1) << control)
    if kind in RESETS:
        others = ~(1 << op[1])
        return (x & others, z & others)
    return (x, z)


def run_frame(ops, faults):
    """Returns the final frame (flips, x, z) of a run with faults."""
    strikes = total_strikes(faults)
    flips = []
    x = z = 0
    for at, op in enumerate(ops):
        x, z = frame_after(op, x, z)
        strike_x, strike_z = strikes.get(at, (0, 0))
        x ^= strike_x
        z ^= strike_z
        # A reading leaves the masks as they are, so its faults have struck before it.
        if is_reading(op):
            inverting = x if INVERTING[op[0]] == "X" else z
            flips.append(inverting >> op[1] & 1)
    return (flips, x, z)


def dealt(ops, coins):
    """Returns a list with one coin for each operation; those that need none have 0."""
    hands = []
    used = 0
    for op in ops:
        needed = is_reading(op) or op[0] in RESETS
        hands.append(coins[used] if needed and used < len(coins) else 0)
        used += int(needed)
    return hands


def execute(state, op, coin):
    """Executes an operation, and returns the list of its outcomes."""
    kind = op[0]
    qubit = op[1]
    if kind == "cx":
        state.apply(("CX", qubit, op[2]))
    if kind in RESETS:
        state.reset(qubit, coin)
    if kind == "plus":
        state.apply(("H", qubit))
    if is_reading(op):
        place = 1 << qubit
        outcome, _ = state.measure((0, 0, place) if kind == "read_z" else (0, place, 0), coin)
        return [outcome]
    return []


def strike_masks(state, masks):
    """Strikes a state with the operator that has the masks (x, z)."""
    x, z = masks
    state.strike((0, x, z))


def run_state(state, ops, faults, coins):
    """Executes operations with faults on a state, and returns the list of the outcomes of the readings."""
    strikes = total_strikes(faults)
    hands = dealt(ops, coins)
    outcomes = []
    for at, op in enumerate(ops):
        struck_first = is_reading(op)
        if at in strikes and struck_first:
            strike_masks(state, strikes[at])
        outcomes.extend(execute(state, op, hands[at]))
        if at in strikes and not struck_first:
            strike_masks(state, strikes[at])
    return outcomes


def simple_effects(ops, letter, marks, ends):
    """Returns what each fault of simple_faults changes, in the same order, as exclusive ors of marks.

    marks[k] is changed by a fault that inverts reading number k. ends is a dict: the mark of a
    qubit is changed if the fault has, in the end, its letter at this qubit.
    """
    # Going backwards, the marks that the letter at a qubit changes are known at every point of time.
    changed = dict(ends)
    left = len(marks)
    found = []
    for op in reversed(ops):
        kind = op[0]
        if is_reading(op):
            left -= 1
            if INVERTING[kind] == letter:
                changed[op[1]] = changed.get(op[1], 0) ^ marks[left]
        found.append([sum_of_marks(changed, mask) for mask in fault_masks(op)])
        if kind == "cx":
            # What cx copies from one qubit to the other changes the marks of the other one, too.
            source, copy = qubits_of(op) if letter == "X" else (op[2], op[1])
            changed[source] = changed.get(source, 0) ^ changed.get(copy, 0)
        if kind in RESETS:
            changed[op[1]] = 0
    return [effect for effects in reversed(found) for effect in effects]


def sum_of_marks(changed, mask):
    """Returns the exclusive or of the marks of the members of a mask."""
    total = 0
    for qubit in members(mask):
        total ^= changed.get(qubit, 0)
    return total
