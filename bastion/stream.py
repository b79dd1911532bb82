"""Streams, which decode a life while it goes on."""

from bastion.clusters import cluster_join
from bastion.errors import Closed
from bastion.graph import life_graph, total_flip
from bastion.memory import LETTERS, check_rows
from bastion.patch import patch
from bastion.record import changed_checks


class Watch:
    """What a stream has seen of the nodes of one letter."""

    def __init__(self, rows, columns, letter):
        self._rows = rows
        self._columns = columns
        self._letter = letter
        # A fault distance of d bears (d - 1) // 2 faults; one row more than that separates two segments.
        self._rest = ((rows if letter == "X" else columns) - 1) // 2 + 1
        # The rows that are not quiet of the segment that is not decided yet: pairs (row, list of bits for the nodes).
        self._segment = []
        self._decided = []

    def see(self, number, before, after):
        """Takes the row with a number and the one before it, and returns the list of the segments that it decides."""
        changes = changed_checks(self._rows, self._columns, self._letter, before, after)
        if any(changes):
            self._segment.append((number, changes))
            return []
        if len(self._segment) > 0 and number - self._segment[-1][0] == self._rest:
            return self.decide(number)
        return []

    def decide(self, number):
        """Decides the segment that is left, if there is one, when the last row has the given number.

        Returns the list of the segments (first, last, flip) that this decides.
        """
        if len(self._segment) == 0:
            return []
        first = self._segment[0][0]
        last = self._segment[-1][0]
        flip = self._flip_between(max(1, first - self._rest), min(last + self._rest, number))
        self._segment = []
        self._decided.append((first, last, flip))
        return [(first, last, flip)]

    def _flip_between(self, a, b):
        """Returns the flip of the segment, for a life from row a to row b."""
        graph = life_graph(self._rows, self._columns, max(1, b - a), self._letter)
        fired = [
            (row - a) * len(changes) + j
            for row, changes in self._segment
            for j, change in enumerate(changes)
            if change
        ]
        return total_flip(graph, cluster_join(graph, fired))

    def decided(self):
        """Returns the list of the segments that have been decided."""
        return list(self._decided)

    def flip(self):
        """Returns the sum of the flips of the decided segments modulo 2."""
        return sum([flip for _, _, flip in self._decided]) % 2

    def waiting(self):
        """Returns the number of the fired nodes of the segment that is not decided yet."""
        return sum([sum(changes) for _, changes in self._segment])


class Stream:
    """A life of a patch that is decoded row by row."""

    def __init__(self, rows, columns, signs):
        self._code = patch(rows, columns)
        check_rows([signs], 1, rows * columns - 1)
        self._rows = rows
        self._columns = columns
        self._watches = {letter: Watch(rows, columns, letter) for letter in LETTERS}
        self._signs = list(signs)
        # The last row that has been taken, and its number.
        self._last = list(signs)
        self._number = 0
        self._closed = False

    def push(self, row):
        """Takes the outcomes of the next round, and returns the segments (letter, first, last, flip) decided now."""
        self._check(row)
        return self._take(row)

    def close(self, row):
        """Takes the last row, and returns the masks (x, z) of errors that explain it."""
        self._check(row)
        self._take(row)
        for letter in LETTERS:
            self._watches[letter].decide(self._number)
        self._closed = True
        return tuple([self._correction(letter) for letter in LETTERS])

    def _check(self, row):
        """Raises Closed or InvalidRecord if the stream cannot take a row."""
        if self._closed:
            raise Closed("the stream is closed")
        check_rows([row], 1, len(self._signs))

    def _take(self, row):
        """Takes the next row, and returns the list of the segments that it decides."""
        self._number += 1
        found = [
            (letter, first, last, flip)
            for letter in LETTERS
            for first, last, flip in self._watches[letter].see(self._number, self._last, row)
        ]
        self._last = list(row)
        return found

    def _correction(self, letter):
        """Returns an error of a letter that explains the last row, with the logical bit of the segments."""
        syndrome = changed_checks(self._rows, self._columns, letter, self._signs, self._last)
        return self._code.fix(letter, syndrome, [self.flip(letter)])

    def decided(self, letter):
        """Returns the list of the segments (first, last, flip) of a letter that have been decided."""
        return self._watches[letter].decided()

    def flip(self, letter):
        """Returns the sum of the flips of the decided segments of a letter modulo 2."""
        return self._watches[letter].flip()

    def waiting(self, letter):
        """Returns the number of the fired nodes of a letter that do not belong to a decided segment."""
        return self._watches[letter].waiting()
