"""Memories: patches that keep a logical qubit for some rounds, and the decoding of their records."""

from bastion.bits import are_bits, mask_of
from bastion.circuit import life_ops
from bastion.clusters import full_edges, grow, join_within
from bastion.distance import fault_distance
from bastion.errors import InvalidRecord
from bastion.graph import life_graph, total_flip
from bastion.joins import least_join
from bastion.patch import patch
from bastion.record import changed_checks, check_changes, fired_nodes

LETTERS = ("X", "Z")

OTHER_LETTERS = {"X": "Z", "Z": "X"}


def check_rows(rows, many, length):
    """Raises InvalidRecord if there are not as many rows as wanted, each with as many bits as wanted."""
    if len(rows) != many:
        raise InvalidRecord("the number of rows is wrong")
    if not all([are_bits(row, length) for row in rows]):
        raise InvalidRecord("a row does not have the right number of bits")


def grown_join(graph, fired):
    """Returns a join within grown clusters, and the cuts that have grown."""
    growth, cuts = grow(graph, fired)
    return (join_within(graph, full_edges(growth), fired), cuts)


def correction_of(memory, record, letter, flip):
    """Returns an error of a letter that explains the last row of a record and has a given logical bit."""
    syndrome = changed_checks(memory.rows, memory.columns, letter, record[0], record[-1])
    return memory.code().fix(letter, syndrome, [flip])


class Decoding:
    """What a decoder has found in a record."""

    def __init__(self, edges, cuts, flips, corrections):
        """Takes four dicts, each with one item for each letter."""
        self._edges = edges
        self._cuts = cuts
        self._flips = flips
        self._corrections = corrections

    def edges(self, letter):
        """Returns the join of the fired nodes of a letter."""
        return list(self._edges[letter])

    def cuts(self, letter):
        """Returns the cuts that belong to the join of a letter."""
        return list(self._cuts[letter])

    def flip(self, letter):
        """Returns the total flip of the join of a letter."""
        return self._flips[letter]

    def correction(self, letter):
        """Returns an error of a letter that undoes what the faults have done."""
        return self._corrections[letter]


def decoding_of(memory, record, joins):
    """Returns the Decoding of a record, for a dict of the join and the cuts (edges, cuts) of each letter."""
    edges = {letter: joins[letter][0] for letter in LETTERS}
    cuts = {letter: joins[letter][1] for letter in LETTERS}
    flips = {letter: total_flip(memory.graph(letter), edges[letter]) for letter in LETTERS}
    corrections = {letter: correction_of(memory, record, letter, flips[letter]) for letter in LETTERS}
    return Decoding(edges, cuts, flips, corrections)


class Memory:
    """A memory of one patch with a number of rounds. It never changes."""

    def __init__(self, rows, columns, rounds):
        self._ops = life_ops(rows, columns, rounds)
        self._code = patch(rows, columns)
        self._graphs = {letter: life_graph(rows, columns, rounds, letter) for letter in LETTERS}
        self.rows = rows
        self.columns = columns
        self.rounds = rounds

    def code(self):
        """Returns the code of the patch."""
        return self._code

    def ops(self):
        """Returns the list of the operations of the life."""
        return list(self._ops)

    def graph(self, letter):
        """Returns the graph of the life for a letter."""
        return self._graphs[letter]

    def bearable(self, letter):
        """Returns the greatest number of faults with a letter that the memory is sure to bear."""
        return (fault_distance(self.graph(letter)) - 1) // 2

    def decoded(self, record):
        """Returns the Decoding of a record, with least joins."""
        return self._decoding(record, least_join)

    def quick(self, record):
        """Returns the Decoding of a record, with joins within grown clusters."""
        return self._decoding(record, grown_join)

    def _decoding(self, record, join):
        """Returns the Decoding of a record, with joins (edges, cuts) that a function makes."""
        check_rows(record, self.rounds + 2, self.rows * self.columns - 1)
        fired = {letter: fired_nodes(self.rows, self.columns, record, letter) for letter in LETTERS}
        joins = {letter: join(self.graph(letter), fired[letter]) for letter in LETTERS}
        return decoding_of(self, record, joins)

    def read(self, letter, record, bits):
        """Returns the value of the logical operator of a letter, read from a measurement of all data qubits."""
        check_rows(record, self.rounds + 1, self.rows * self.columns - 1)
        check_rows([bits], 1, self.rows * self.columns)
        # What changes a measurement of one letter are errors of the other letter.
        errors = OTHER_LETTERS[letter]
        measured = mask_of([q for q, bit in enumerate(bits) if bit])
        last_row = check_changes(self.rows, self.columns, measured, measured)
        fired = fired_nodes(self.rows, self.columns, record + [last_row], errors)
        edges, _ = least_join(self.graph(errors), fired)
        return self._code.logical_bits(errors, measured)[0] ^ total_flip(self.graph(errors), edges)
