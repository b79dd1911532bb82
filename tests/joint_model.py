"""Joint readings, straight from the words of part 15 and without the package.

A direction is "wide" for two patches side by side and "tall" for two patches one above the other.
"""

OTHER = {"X": "Z", "Z": "X"}

# The letters whose product is measured.
PRODUCT = {"wide": "X", "tall": "Z"}

# How seam qubits are reset and read.
SEAM_OPS = {"wide": ("zero", "read_z"), "tall": ("plus", "read_x")}

ORDERS = {"X": ("NW", "NE", "SW", "SE"), "Z": ("NW", "SW", "NE", "SE")}


def places(rows, columns, i, j):
    """The places (row, column) of the data qubits that a corner touches, by their direction."""
    four = {"NW": (i - 1, j - 1), "NE": (i - 1, j), "SW": (i, j - 1), "SE": (i, j)}
    return {name: (r, c) for name, (r, c) in four.items() if 0 <= r < rows and 0 <= c < columns}


def letter_at(i, j):
    return "X" if (i + j) % 2 == 0 else "Z"


def carries(rows, columns, i, j):
    if not (0 <= i <= rows and 0 <= j <= columns):
        return False
    count = len(places(rows, columns, i, j))
    if letter_at(i, j) == "X":
        return count == 4 or (count == 2 and (i == 0 or i == rows))
    return count == 4 or (count == 2 and (j == 0 or j == columns))


class JointModel:

    def __init__(self, direction, rows, columns):
        self.direction, self.rows, self.columns = direction, rows, columns
        wide = direction == "wide"
        self.large = (rows, 2 * columns + 1) if wide else (2 * rows + 1, columns)
        self.data = [(r, c) for r in range(self.large[0]) for c in range(self.large[1])]
        self.seam = [(r, c) for r, c in self.data if (c == columns if wide else r == rows)]
        self.sites = [(letter_at(i, j), i, j) for i in range(self.large[0] + 1) for j in range(self.large[1] + 1)
                      if carries(*self.large, i, j)]
        self.separate = [s for s in range(len(self.sites)) if self.is_separate(s)]

    def number(self, place):
        return place[0] * self.large[1] + place[1]

    def mask(self, some):
        return sum(2 ** self.number(place) for place in some)

    def is_separate(self, s):
        _, i, j = self.sites[s]
        if self.direction == "wide":
            return carries(self.rows, self.columns, i, j if j <= self.columns else j - self.columns - 1)
        return carries(self.rows, self.columns, i if i <= self.rows else i - self.rows - 1, j)

    def own_places(self, s):
        """What a separate site touches of its own patch."""
        _, i, j = self.sites[s]
        touched = places(*self.large, i, j)
        if self.direction == "wide":
            own = range(self.columns) if j <= self.columns else range(self.columns + 1, self.large[1])
            return {name: (r, c) for name, (r, c) in touched.items() if c in own}
        own = range(self.rows) if i <= self.rows else range(self.rows + 1, self.large[0])
        return {name: (r, c) for name, (r, c) in touched.items() if r in own}

    def round(self, joined):
        waiting = [place for place in self.data if joined or place not in self.seam]
        taken = range(len(self.sites)) if joined else self.separate
        ops = [("wait", self.number(place)) for place in waiting]
        helper = {s: len(self.data) + s for s in taken}
        ops += [("plus" if self.sites[s][0] == "X" else "zero", helper[s]) for s in taken]
        for layer in range(4):
            for s in taken:
                letter, i, j = self.sites[s]
                touched = places(*self.large, i, j) if joined else self.own_places(s)
                place = touched.get(ORDERS[letter][layer])
                if place:
                    pair = (helper[s], self.number(place))
                    ops.append(("cx", *(pair if letter == "X" else pair[::-1])))
        ops += [("read_x" if self.sites[s][0] == "X" else "read_z", helper[s]) for s in taken]
        return ops

    def ops(self, before, joined, after):
        reset, read = SEAM_OPS[self.direction]
        ops = [op for _ in range(before) for op in self.round(False)]
        ops += [(reset, self.number(place)) for place in self.seam]
        ops += [op for _ in range(joined) for op in self.round(True)]
        ops += [(read, self.number(place)) for place in self.seam]
        return ops + [op for _ in range(after) for op in self.round(False)]

    def ends(self):
        found = []
        for s in self.separate:
            mask = self.mask(self.own_places(s).values())
            found.append((mask, 0) if self.sites[s][0] == "X" else (0, mask))
        if self.direction == "wide":
            found.append((0, self.mask([(0, c) for c in range(2 * self.columns + 1) if c != self.columns])))
            found.append((self.mask([(r, 0) for r in range(self.rows)]), 0))
            found.append((self.mask([(r, self.columns + 1) for r in range(self.rows)]), 0))
        else:
            found.append((self.mask([(r, 0) for r in range(2 * self.rows + 1) if r != self.rows]), 0))
            found.append((0, self.mask([(0, c) for c in range(self.columns)])))
            found.append((0, self.mask([(self.rows + 1, c) for c in range(self.columns)])))
        return found

    def readings(self, before, joined, after):
        """What is read, in order: (site or place of a seam qubit, how it is read)."""
        told = [(s, "apart") for _ in range(before) for s in self.separate]
        told += [(s, f"joined {t}") for t in range(joined) for s in range(len(self.sites))]
        told += [(place, "seam") for place in self.seam]
        told += [(s, "apart") for _ in range(after) for s in self.separate]
        return told + [(s, "end") for s in self.separate]

    def detectors(self, rounds, signs):
        """The last value of a site is a list of readings and a bit."""
        last = {s: ([], sign) for s, sign in zip(self.separate, signs)}
        found, split = [], {}
        for number, (what, how) in enumerate(self.readings(*rounds)):
            if how == "seam":
                split[what] = number
                if len(split) == len(self.seam):
                    self.take_seam(last, split)
                continue
            if what in last:
                found.append((OTHER[self.sites[what][0]], sorted(last[what][0] + [number]), last[what][1]))
            last[what] = ([number], 0)
        return found

    def take_seam(self, last, split):
        """When the seam qubits are read; split tells the numbers of their readings."""
        for s, (letter, i, j) in enumerate(self.sites):
            if s not in self.separate:
                del last[s]
            elif letter != PRODUCT[self.direction]:
                more = [split[place] for place in places(*self.large, i, j).values() if place in split]
                last[s] = (last[s][0] + more, last[s][1])

    def observables(self, rounds):
        told = self.readings(*rounds)
        letter = PRODUCT[self.direction]
        chosen = []
        for s, (other, i, j) in enumerate(self.sites):
            near = 1 <= j <= self.columns + 1 if self.direction == "wide" else 1 <= i <= self.rows + 1
            if other == letter and near:
                chosen.append(told.index((s, "joined 0")))
        corner = told.index((self.seam[0], "seam"))
        behind = len(told)
        return [(OTHER[letter], sorted(chosen)), (letter, [corner, behind]), (OTHER[letter], [behind + 1]),
                (OTHER[letter], [behind + 2])]
