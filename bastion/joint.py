"""Joint readings of two patches, which are joined for some rounds and split again."""

from bastion.bits import mask_of
from bastion.circuit import check_round, preparation, reading
from bastion.code import check_bits
from bastion.errors import InvalidSize
from bastion.memory import OTHER_LETTERS
from bastion.patch import corners, has_check, touched
from bastion.plan import Plan


def ends_for(letter, mask):
    """Returns the end that measures a letter on all members of a mask."""
    return (mask, 0) if letter == "X" else (0, mask)


class Pair:
    """Two patches of one size in a large patch, and one line of seam qubits between them.

    If tall is False, they lie side by side, otherwise one above the other. Where both cases are
    alike, a place is told by two numbers: its depth, counted from one patch to the other, and its
    place along the seam.
    """

    def __init__(self, rows, columns, tall):
        self._rows = rows
        self._columns = columns
        self._tall = tall
        # The depth of the seam and its length.
        self._size = rows if tall else columns
        self._length = columns if tall else rows
        if self._length < 2 or self._size < 3 or self._size % 2 == 0:
            raise InvalidSize("two patches of this size cannot be joined")
        # The letter whose product is measured, and the one in which the seam qubits are reset and read.
        self._letter = "Z" if tall else "X"
        self._seam_letter = OTHER_LETTERS[self._letter]
        self._large = (2 * rows + 1, columns) if tall else (rows, 2 * columns + 1)
        self._sites = corners(self._large[0], self._large[1])
        self._seam = [self._qubit(self._size, at) for at in range(self._length)]

    def _qubit(self, depth, at):
        """Returns the number of the data qubit at a place."""
        return depth * self._columns + at if self._tall else at * self._large[1] + depth

    def _depth(self, site):
        """Returns the depth of the corner of a site."""
        return site[1] if self._tall else site[2]

    def _is_separate(self, site):
        """Returns True if a site carries a check in its own patch, otherwise False."""
        _, i, j = site
        if self._depth(site) <= self._size:
            return has_check(self._rows, self._columns, i, j)
        by = self._size + 1
        own_i, own_j = (i - by, j) if self._tall else (i, j - by)
        return has_check(self._rows, self._columns, own_i, own_j)

    def sites(self):
        """Returns the list of the sites."""
        return list(self._sites)

    def separate(self):
        """Returns the ascending list of the numbers of the separate sites."""
        return [s for s, site in enumerate(self._sites) if self._is_separate(site)]

    def everything(self):
        """Returns the list of the numbers of all sites."""
        return list(range(len(self._sites)))

    def letter_of(self, s):
        """Returns the letter of a site."""
        return self._sites[s][0]

    def seam(self):
        """Returns the list of the seam qubits."""
        return list(self._seam)

    def _data(self):
        """Returns the number of all data qubits."""
        return self._large[0] * self._large[1]

    def _touched(self, s):
        """Returns the list of the four data qubits that a site touches in the large patch, -1 for a missing one."""
        _, i, j = self._sites[s]
        return touched(self._large[0], self._large[1], i, j)

    def seam_at(self, s):
        """Returns the list of the seam qubits that a site touches in the large patch."""
        return [q for q in self._touched(s) if q in self._seam]

    def _own(self, s):
        """Returns the four data qubits of a separate site; those of the seam count as missing."""
        return [-1 if q in self._seam else q for q in self._touched(s)]

    def separate_round(self):
        """Returns the list of the operations of a separate round."""
        waiting = [q for q in range(self._data()) if q not in self._seam]
        return check_round(waiting, [(self.letter_of(s), self._data() + s, self._own(s)) for s in self.separate()])

    def joined_round(self):
        """Returns the list of the operations of a joined round."""
        checks = [(self.letter_of(s), self._data() + s, self._touched(s)) for s in self.everything()]
        return check_round(list(range(self._data())), checks)

    def opening(self):
        """Returns the list of the operations that reset the seam qubits."""
        return [preparation(self._seam_letter, q) for q in self._seam]

    def splitting(self):
        """Returns the list of the operations that read the seam qubits."""
        return [reading(self._seam_letter, q) for q in self._seam]

    def product_sites(self):
        """Returns the list of the numbers of the sites whose product is the outcome of the joint reading."""
        near = [s for s, site in enumerate(self._sites) if 1 <= self._depth(site) <= self._size + 1]
        return [s for s in near if self.letter_of(s) == self._letter]

    def _line(self, depth):
        """Returns the end of the logical operator along the seam at a depth."""
        return ends_for(self._letter, mask_of([self._qubit(depth, at) for at in range(self._length)]))

    def plan_ends(self):
        """Returns the list of the ends of a joint reading."""
        found = [
            ends_for(self.letter_of(s), mask_of([q for q in self._own(s) if q >= 0])) for s in self.separate()
        ]
        across = [self._qubit(depth, 0) for depth in range(2 * self._size + 1) if depth != self._size]
        found.append(ends_for(self._seam_letter, mask_of(across)))
        found.extend([self._line(0), self._line(self._size + 1)])
        return found

    def plan_observables(self, product, seam_reading, behind):
        """Returns the observables, for the readings of the product, of one seam qubit, and of the first end behind."""
        return [
            (self._seam_letter, sorted(product)),
            (self._letter, [seam_reading, behind]),
            (self._seam_letter, [behind + 1]),
            (self._seam_letter, [behind + 2]),
        ]


class Ledger:
    """The readings of a joint reading so far: the last value of each site, and the detectors."""

    def __init__(self, pair, signs):
        self._pair = pair
        self._made = 0
        # A last value is a pair (numbers of readings, bit).
        self._values = {s: ([], sign) for s, sign in zip(pair.separate(), signs)}
        self._detectors = []

    def made(self):
        """Returns the number of the readings so far, which is the number of the next one."""
        return self._made

    def detectors(self):
        """Returns the list of the detectors so far."""
        return list(self._detectors)

    def read_site(self, s):
        """Takes the next reading as that of a site, and returns its number."""
        number = self._made
        self._made += 1
        if s in self._values:
            numbers, due = self._values[s]
            self._detectors.append((OTHER_LETTERS[self._pair.letter_of(s)], sorted(numbers + [number]), due))
        self._values[s] = ([number], 0)
        return number

    def read_sites(self, listed):
        """Takes the next readings as those of a list of sites, and returns a dict with their numbers."""
        return {s: self.read_site(s) for s in listed}

    def read_rounds(self, listed, count):
        """Takes the readings of some rounds, and returns the dict with the numbers of the first one."""
        first = self.read_sites(listed)
        for _ in range(count - 1):
            self.read_sites(listed)
        return first

    def read_seam(self):
        """Takes the next readings as those of the seam qubits."""
        pair = self._pair
        numbers = {q: self._made + k for k, q in enumerate(pair.seam())}
        self._made += len(numbers)
        kept = {}
        for s in pair.separate():
            # Separate sites of the letter whose product is measured do not touch the seam.
            known, bit = self._values[s]
            kept[s] = (known + [numbers[q] for q in pair.seam_at(s)], bit)
        # Sites that are not separate lose their last value.
        self._values = kept


def pair_ops(pair, before, joined, after):
    """Returns the list of the operations of a joint reading."""
    if before < 1 or joined < 2 or after < 1:
        raise InvalidSize("a joint reading has too few rounds of a kind")
    apart = pair.separate_round()
    ops = apart * before + pair.opening()
    return ops + pair.joined_round() * joined + pair.splitting() + apart * after


def pair_plan(pair, rounds, signs):
    """Returns the plan of a joint reading."""
    before, joined, after = rounds
    ops = pair_ops(pair, before, joined, after)
    separate = pair.separate()
    check_bits(signs, len(separate))
    ledger = Ledger(pair, signs)
    ledger.read_rounds(separate, before)
    first = ledger.read_rounds(pair.everything(), joined)
    seam_reading = ledger.made()
    ledger.read_seam()
    ledger.read_rounds(separate, after)
    ledger.read_sites(separate)
    product = [first[s] for s in pair.product_sites()]
    observables = pair.plan_observables(product, seam_reading, ledger.made())
    return Plan(ops, pair.plan_ends(), ledger.detectors(), observables)


def sites(rows, columns):
    """Returns the list of the sites of two patches side by side."""
    return Pair(rows, columns, False).sites()


def separate_sites(rows, columns):
    """Returns the ascending list of the numbers of the separate sites of two patches side by side."""
    return Pair(rows, columns, False).separate()


def joint_ops(rows, columns, before, joined, after):
    """Returns the operations that measure the product of the X logicals of two patches side by side."""
    return pair_ops(Pair(rows, columns, False), before, joined, after)


def joint_plan(rows, columns, rounds, signs):
    """Returns the plan that measures the product of the X logicals of two patches side by side."""
    return pair_plan(Pair(rows, columns, False), rounds, signs)


def tall_sites(rows, columns):
    """Returns the list of the sites of two patches one above the other."""
    return Pair(rows, columns, True).sites()


def separate_tall_sites(rows, columns):
    """Returns the ascending list of the numbers of the separate sites of two patches one above the other."""
    return Pair(rows, columns, True).separate()


def tall_ops(rows, columns, before, joined, after):
    """Returns the operations that measure the product of the Z logicals of two patches one above the other."""
    return pair_ops(Pair(rows, columns, True), before, joined, after)


def tall_plan(rows, columns, rounds, signs):
    """Returns the plan that measures the product of the Z logicals of two patches one above the other."""
    return pair_plan(Pair(rows, columns, True), rounds, signs)
