"""Experiments, texts that describe one life of a bank."""

from bastion.bank import Bank
from bastion.errors import InvalidLine, InvalidState, InvalidText, TooMany
from bastion.faults import is_fault
from bastion.memory import LETTERS
from bastion.pauli import pauli_text, read_pauli
from bastion.record import fired_nodes
from bastion.state import state_of

MAX_ROUNDS = 10

MAX_PATCHES = 4

# The bounds of the numbers of rows and of columns.
MIN_SIDE = 2
MAX_SIDE = 9

# The greatest number of digits of a number in an experiment.
MAX_DIGITS = 60


def number_in(word, most):
    """Returns the number that a word of at most so many digits stands for, -1 if it is no number."""
    digits = all([character in "0123456789" for character in word])
    if word == "" or len(word) > most or not digits or (word[0] == "0" and word != "0"):
        return -1
    return int(word)


def numbers_in(words, most):
    """Returns the list of the numbers that words stand for, -1 for a word that is no number."""
    return [number_in(word, most) for word in words]


def bits_in(word):
    """Returns the list of the bits of a word, [] if it contains anything else."""
    return [int(character) for character in word] if all([character in "01" for character in word]) else []


def sides_fit(numbers):
    """Returns True if a list consists of two sizes that a text may have, otherwise False."""
    return len(numbers) == 2 and all([MIN_SIDE <= number <= MAX_SIDE for number in numbers])


def operator_in(word, width):
    """Returns the Hermitian operator on width qubits whose text is the word, None if there is none."""
    try:
        p = read_pauli(word)
    except InvalidText:
        return None
    return p if p[0] % 2 == 0 and pauli_text(width, p) == word else None


def is_state(paulis):
    """Returns True if as many operators as qubits generate the group of a state, otherwise False."""
    try:
        state_of(len(paulis), paulis)
    except InvalidState:
        return False
    return True


class Draft:
    """What the lines of an experiment have told so far.

    The methods that take a line or its parts return True if they may stand there, otherwise False.
    """

    def __init__(self):
        self._rounds = 0
        self._sizes = []
        self._paulis = []
        # The bank is made as soon as all store lines are there.
        self._bank = None
        self._signs = []
        self._faults = []
        self._coins = []

    def take(self, words):
        """Takes the words of the next line that is not skipped."""
        kind = words[0]
        rest = words[1:]
        if self._rounds == 0:
            return kind == "rounds" and self._take_rounds(numbers_in(rest, MAX_DIGITS))
        if self._bank is None and kind == "patch":
            return self._take_patch(numbers_in(rest, MAX_DIGITS))
        if self._bank is None:
            return kind == "store" and self._take_store(rest)
        if kind == "sign":
            return self._take_sign(numbers_in(rest, MAX_DIGITS))
        if kind == "fault":
            return self._take_fault(numbers_in(rest, MAX_DIGITS))
        return kind == "coins" and self._take_coins(rest)

    def _take_rounds(self, numbers):
        if len(numbers) != 1 or not 1 <= numbers[0] <= MAX_ROUNDS:
            return False
        self._rounds = numbers[0]
        return True

    def _take_patch(self, numbers):
        if len(self._paulis) > 0 or len(self._sizes) == MAX_PATCHES or not sides_fit(numbers):
            return False
        self._sizes.append((numbers[0], numbers[1]))
        return True

    def _take_store(self, words):
        p = operator_in(words[0], len(self._sizes)) if len(words) == 1 else None
        if p is None:
            return False
        self._paulis.append(p)
        return len(self._paulis) < len(self._sizes) or self._make_bank()

    def _make_bank(self):
        if not is_state(self._paulis):
            return False
        self._bank = Bank(self._sizes, self._rounds)
        self._signs = [[0] * (rows * columns - 1) for rows, columns in self._sizes]
        self._faults = [[] for _ in self._sizes]
        return True

    def _take_sign(self, numbers):
        if len(numbers) != 2 or min(numbers) < 0:
            return False
        k, j = numbers
        if k >= len(self._signs) or j >= len(self._signs[k]) or self._signs[k][j] == 1:
            return False
        self._signs[k][j] = 1
        return True

    def _take_fault(self, numbers):
        if len(numbers) != 4 or min(numbers) < 0:
            return False
        k = numbers[0]
        fault = tuple(numbers[1:])
        if k >= len(self._faults) or not is_fault(self._bank.memory(k).ops(), fault):
            return False
        self._faults[k].append(fault)
        return True

    def _take_coins(self, words):
        bits = bits_in(words[0]) if len(words) == 1 else []
        self._coins.extend(bits)
        return len(bits) > 0

    def experiment(self):
        """Returns the Experiment, None if a line is missing."""
        if self._bank is None:
            return None
        return Experiment(self._bank, self._paulis, self._signs, self._faults, self._coins)


def read_experiment(text):
    """Returns the Experiment of a text."""
    lines = text.split("\n")
    if lines[-1] == "":
        lines.pop()
    draft = Draft()
    for number, line in enumerate(lines, start=1):
        skipped = line == "" or line.startswith("#")
        if not skipped and not draft.take(line.split(" ")):
            raise InvalidLine(number)
    found = draft.experiment()
    if found is None:
        raise InvalidLine(len(lines) + 1)
    return found


def memory_line(k, memory, record):
    """Returns the line of a report about memory number k."""
    try:
        decoding = memory.decoded(record)
    except TooMany:
        return f"memory {k}: too many"
    fired = [len(fired_nodes(memory.rows, memory.columns, record, letter)) for letter in LETTERS]
    edges = [len(decoding.edges(letter)) for letter in LETTERS]
    flips = [decoding.flip(letter) for letter in LETTERS]
    return f"memory {k}: fired {fired[0]} {fired[1]}, edges {edges[0]} {edges[1]}, flips {flips[0]} {flips[1]}"


def bears(memory, faults):
    """Returns True if faults are in the bounds of a memory, otherwise False."""
    x_count = len([x for _, x, _ in faults if x])
    z_count = len([z for _, _, z in faults if z])
    return x_count <= memory.bearable("X") and z_count <= memory.bearable("Z")


def text_of(lines):
    """Returns the text of a list of lines."""
    return "".join([line + "\n" for line in lines])


class Experiment:
    """One life of a bank: what is stored, and what happens to it."""

    def __init__(self, bank, paulis, signs, faults, coins):
        """Takes a bank, and for each memory a list of signs and a list of faults."""
        self._bank = bank
        self._memories = [bank.memory(k) for k in range(len(signs))]
        self._paulis = list(paulis)
        self._signs = [list(row) for row in signs]
        self._faults = [list(struck) for struck in faults]
        self._coins = list(coins)

    def bank(self):
        """Returns the bank."""
        return self._bank

    def paulis(self):
        """Returns the list of the stored operators."""
        return list(self._paulis)

    def signs(self):
        """Returns a list with the list of the signs of each memory."""
        return [list(row) for row in self._signs]

    def faults(self):
        """Returns a list with the list of the faults of each memory."""
        return [list(struck) for struck in self._faults]

    def coins(self):
        """Returns the list of the coins."""
        return list(self._coins)

    def text(self):
        """Returns the text of the experiment, without skipped lines and in one order."""
        many = len(self._memories)
        lines = [f"rounds {self._memories[0].rounds}"]
        lines.extend([f"patch {memory.rows} {memory.columns}" for memory in self._memories])
        lines.extend([f"store {pauli_text(many, p)}" for p in self._paulis])
        lines.extend([
            f"sign {k} {j}" for k, row in enumerate(self._signs) for j, sign in enumerate(row) if sign
        ])
        lines.extend([f"fault {k} {at} {x} {z}" for k, struck in enumerate(self._faults) for at, x, z in struck])
        if len(self._coins) > 0:
            lines.append("coins " + "".join([str(coin) for coin in self._coins]))
        return text_of(lines)

    def bearable(self):
        """Returns True if the bank is sure to bear the faults, otherwise False."""
        return all([bears(memory, struck) for memory, struck in zip(self._memories, self._faults)])

    def run(self):
        """Stores the state, lets it live, repairs it, and returns the report."""
        stored = self._bank.store(self._paulis, self._signs)
        state = stored.duplicate()
        rows = self._bank.live(state, self._faults, self._coins)
        last = self._bank.last_rows(state)
        lines = [
            memory_line(k, memory, [self._signs[k]] + rows[k] + [last[k]])
            for k, memory in enumerate(self._memories)
        ]
        try:
            self._bank.repair(state, self._signs, rows)
            lines.append("kept" if state.same_as(stored) else "lost")
        except TooMany:
            lines.append("open")
        return text_of(lines)
