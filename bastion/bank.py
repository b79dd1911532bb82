"""Banks, which keep several logical qubits, each in a memory of its own, in one stabilizer state."""

from bastion.circuit import moved_op
from bastion.code import check_bits
from bastion.errors import InvalidRecord, SizeMismatch
from bastion.faults import moved_fault, run_state
from bastion.memory import Memory, check_rows
from bastion.patch import corner_paulis
from bastion.pauli import negated, product_of, shifted
from bastion.state import state_of


def data_count(memory):
    """Returns the number of the data qubits of a memory."""
    return memory.rows * memory.columns


def rows_of(outcomes, rounds):
    """Returns the outcomes of all rounds, one row for each round."""
    length = len(outcomes) // rounds
    return [outcomes[t * length:(t + 1) * length] for t in range(rounds)]


class Bank:
    """Memories side by side. It never changes; the states that it works on do."""

    def __init__(self, sizes, rounds):
        self._memories = [Memory(rows, columns, rounds) for rows, columns in sizes]
        self._firsts = []
        self._checks = []
        self._helpers = []
        width = 0
        for memory in self._memories:
            count = data_count(memory)
            self._firsts.append(width)
            self._checks.append([shifted(p, width) for p in corner_paulis(memory.rows, memory.columns)])
            self._helpers.extend([width + q for q in range(count, 2 * count - 1)])
            width += 2 * count - 1
        self.width = width

    def memory(self, k):
        """Returns the memory number k."""
        return self._memories[k]

    def first_qubit(self, k):
        """Returns the number of the first qubit of memory number k."""
        return self._firsts[k]

    def physical(self, p):
        """Returns the operator on the qubits of the bank that belongs to an operator on the logical qubits."""
        power, x, z = p
        parts = [(power, 0, 0)]
        for k, memory in enumerate(self._memories):
            logical = memory.code().logical_pauli((0, x >> k & 1, z >> k & 1))
            parts.append(shifted(logical, self._firsts[k]))
        return product_of(parts)

    def store(self, paulis, signs):
        """Returns the state with given values of logical operators and given signs of the checks."""
        self._check_signs(signs)
        # This raises InvalidState if the operators are not those of a state of the logical qubits.
        state_of(len(self._memories), paulis)
        generators = [self.physical(p) for p in paulis] + [(0, 0, 1 << q) for q in self._helpers]
        for checks, row in zip(self._checks, signs):
            generators.extend([negated(p) if sign else p for p, sign in zip(checks, row)])
        return state_of(self.width, generators)

    def _check_signs(self, signs):
        """Raises SizeMismatch if there is not one sign for each check of each memory."""
        if len(signs) != len(self._memories):
            raise SizeMismatch("there is not one list of signs for each memory")
        for checks, row in zip(self._checks, signs):
            check_bits(row, len(checks))

    def live(self, state, faults, coins):
        """Executes the lives of all memories with their faults, and returns the rows of each memory."""
        return [self._live_one(k, state, struck, coins) for k, struck in enumerate(faults)]

    def _live_one(self, k, state, faults, coins):
        """Executes the life of memory number k, and returns its rows."""
        first = self._firsts[k]
        memory = self._memories[k]
        ops = [moved_op(op, first) for op in memory.ops()]
        outcomes = run_state(state, ops, [moved_fault(fault, first) for fault in faults], coins)
        return rows_of(outcomes, memory.rounds)

    def last_rows(self, state):
        """Measures all checks, and returns the row of each memory."""
        return [[state.measure(p, 0)[0] for p in checks] for checks in self._checks]

    def repair(self, state, signs, rows):
        """Measures all checks, undoes what the faults have done, and returns the Decoding of each memory."""
        self._check_records(signs, rows)
        last = self.last_rows(state)
        decodings = [
            memory.decoded([signs[k]] + rows[k] + [last[k]]) for k, memory in enumerate(self._memories)
        ]
        for first, decoding in zip(self._firsts, decodings):
            state.strike(shifted((0, decoding.correction("X"), decoding.correction("Z")), first))
        for helper in self._helpers:
            state.reset(helper, 0)
        return decodings

    def _check_records(self, signs, rows):
        """Raises InvalidRecord if the signs and the rows are not those of the memories."""
        if len(signs) != len(self._memories) or len(rows) != len(self._memories):
            raise InvalidRecord("there is not one list of signs and one list of rows for each memory")
        for k, memory in enumerate(self._memories):
            check_rows([signs[k]] + rows[k], memory.rounds + 1, data_count(memory) - 1)

    def value(self, state, p):
        """Returns the expectation of the operator that belongs to an operator on the logical qubits."""
        return state.expectation(self.physical(p))
