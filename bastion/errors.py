"""The errors of the package."""


class BastionError(ValueError):
    """The base class of all errors of the package."""


class NoSolution(BastionError):
    """There is nothing with the wanted properties."""


class InvalidText(BastionError):
    """A text is not that of a Pauli operator."""


class InvalidState(BastionError):
    """Operators do not generate the group of a stabilizer state."""


class InvalidGate(BastionError):
    """A gate is not one of the known ones, or does not fit to the state."""


class InvalidCode(BastionError):
    """Checks and logicals do not form a code."""


class TooLarge(BastionError):
    """A code has too many qubits for this task."""


class SizeMismatch(BastionError):
    """A list does not have as many items as it should."""


class InvalidSize(BastionError):
    """A number of rows, columns or rounds is not allowed."""


class NotBalanced(BastionError):
    """A graph has no sides that explain its flips."""


class TooMany(BastionError):
    """Too many nodes are fired."""


class NoJoin(BastionError):
    """The fired nodes cannot be joined."""


class InvalidRecord(BastionError):
    """A record does not fit to the life it should tell of."""


class InvalidLine(BastionError):
    """A line of an experiment is not allowed at its place."""

    def __init__(self, line):
        self.line = line


class Closed(BastionError):
    """A stream is closed."""


class NotAGraph(BastionError):
    """The faults of a plan do not form a graph."""


class InvalidPaper(BastionError):
    """A text is not a paper."""
