"""Codes of X checks and Z checks."""

from bastion.bits import are_bits, in_span, kernel, parity, rank, solve, weight
from bastion.errors import InvalidCode, InvalidState, NoSolution, SizeMismatch, TooLarge
from bastion.pauli import negated, pauli_mul, product_of
from bastion.state import state_of

# The greatest width of a code whose distance is looked for among all masks.
MAX_WIDTH = 16


def parities(masks, mask):
    """Returns the list of the parities of what a mask has in common with each mask of a list."""
    return [parity(other & mask) for other in masks]


def all_even(masks, others):
    """Returns True if each mask has an even number of members in common with each of the others."""
    return not any([any(parities(others, mask)) for mask in masks])


def check_masks(width, masks):
    """Raises InvalidCode if a mask is empty or contains what is not a qubit."""
    if any([mask < 1 or mask >> width for mask in masks]):
        raise InvalidCode("a mask is empty or contains what is not a qubit")


def check_pairs(x_logicals, z_logicals):
    """Raises InvalidCode if the logicals are not pairs that do not commute."""
    if len(x_logicals) != len(z_logicals):
        raise InvalidCode("there are not as many X logicals as Z logicals")
    for i, mask in enumerate(x_logicals):
        if parities(z_logicals, mask) != [int(i == k) for k in range(len(z_logicals))]:
            raise InvalidCode("an X logical does not fit to the Z logicals")


def check_code(width, x_checks, z_checks, x_logicals, z_logicals):
    """Raises InvalidCode if the lists are not valid."""
    if width < 1:
        raise InvalidCode("a code has at least one qubit")
    check_masks(width, [*x_checks, *z_checks, *x_logicals, *z_logicals])
    if not all_even(x_checks, [*z_checks, *z_logicals]):
        raise InvalidCode("an X check does not commute with a Z check or a Z logical")
    if not all_even(z_checks, x_logicals):
        raise InvalidCode("a Z check does not commute with an X logical")
    check_pairs(x_logicals, z_logicals)
    if rank(x_checks) < len(x_checks) or rank(z_checks) < len(z_checks):
        raise InvalidCode("the checks are not independent")
    if len(x_checks) + len(z_checks) + len(x_logicals) != width:
        raise InvalidCode("the numbers of checks and logicals do not add up to the width")


def check_bits(bits, count):
    """Raises SizeMismatch if a list does not have the given number of bits."""
    if not are_bits(bits, count):
        raise SizeMismatch("a list does not have the right number of bits")


def all_sums(masks):
    """Returns the list of all sums of some of the masks."""
    sums = [0]
    for mask in masks:
        sums = sums + [mask ^ total for total in sums]
    return sums


class Code:
    """A code: its checks and its logicals, as masks of qubits."""

    def __init__(self, width, x_checks, z_checks, x_logicals, z_logicals):
        check_code(width, x_checks, z_checks, x_logicals, z_logicals)
        self.width = width
        self._x_checks = list(x_checks)
        self._z_checks = list(z_checks)
        self._x_logicals = list(x_logicals)
        self._z_logicals = list(z_logicals)

    @property
    def x_checks(self):
        """The list of the X checks."""
        return list(self._x_checks)

    @property
    def z_checks(self):
        """The list of the Z checks."""
        return list(self._z_checks)

    @property
    def x_logicals(self):
        """The list of the X logicals."""
        return list(self._x_logicals)

    @property
    def z_logicals(self):
        """The list of the Z logicals."""
        return list(self._z_logicals)

    def _checks_against(self, letter):
        """Returns the checks of the other letter."""
        return self.z_checks if letter == "X" else self.x_checks

    def _logicals_against(self, letter):
        """Returns the logicals of the other letter."""
        return self.z_logicals if letter == "X" else self.x_logicals

    def syndrome(self, letter, mask):
        """Returns the list of the parities of an error with the checks against its letter."""
        return parities(self._checks_against(letter), mask)

    def logical_bits(self, letter, mask):
        """Returns the list of the parities of an error with the logicals against its letter."""
        return parities(self._logicals_against(letter), mask)

    def is_trivial(self, letter, mask):
        """Returns True if an error is a product of checks of its letter, otherwise False."""
        return in_span(self._x_checks if letter == "X" else self._z_checks, mask)

    def fix(self, letter, syndrome, bits):
        """Returns the least error of a letter with the given syndrome and logical bits."""
        return solve(self._checks_against(letter) + self._logicals_against(letter), syndrome + bits)

    def distance(self, letter):
        """Returns the least weight of an error that changes a logical without being noticed."""
        if self.width > MAX_WIDTH:
            raise TooLarge("the code has too many qubits")
        if len(self._x_logicals) == 0:
            raise NoSolution("the code has no logicals")
        unnoticed = all_sums(kernel(self._checks_against(letter), self.width))
        return min([weight(mask) for mask in unnoticed if any(self.logical_bits(letter, mask))])

    def check_paulis(self):
        """Returns the list of the operators of the X checks and then of the Z checks."""
        return [(0, mask, 0) for mask in self._x_checks] + [(0, 0, mask) for mask in self._z_checks]

    def logical_pauli(self, p):
        """Returns the operator on the qubits that belongs to an operator on the logical qubits."""
        power, x, z = p
        parts = [(power, 0, 0)]
        for k, (x_mask, z_mask) in enumerate(zip(self._x_logicals, self._z_logicals)):
            has_x = x >> k & 1
            has_z = z >> k & 1
            # Y is i X Z, so the power is 1 if both letters are there.
            parts.append(pauli_mul((has_x & has_z, has_x * x_mask, 0), (0, 0, has_z * z_mask)))
        return product_of(parts)

    def encoded(self, paulis, signs):
        """Returns the state with given values of logical operators and given signs of the checks."""
        checks = self.check_paulis()
        check_bits(signs, len(checks))
        self._check_logical_state(paulis)
        signed = [negated(p) if sign else p for p, sign in zip(checks, signs)]
        return state_of(self.width, [self.logical_pauli(p) for p in paulis] + signed)

    def _check_logical_state(self, paulis):
        """Raises InvalidState if the operators do not generate the group of a state of the logical qubits."""
        if len(self._x_logicals) > 0:
            state_of(len(self._x_logicals), paulis)
        elif len(paulis) > 0:
            raise InvalidState("a code without logicals stores nothing")


def joined(first, second, by):
    """Returns the masks of the first list, followed by those of the second one with each qubit moved."""
    return first + [mask << by for mask in second]


def joined_code(first, second):
    """Returns the code of the qubits of the first code followed by those of the second one."""
    by = first.width
    return Code(
        by + second.width,
        joined(first.x_checks, second.x_checks, by),
        joined(first.z_checks, second.z_checks, by),
        joined(first.x_logicals, second.x_logicals, by),
        joined(first.z_logicals, second.z_logicals, by),
    )
