"""Rectangular surface-code patches."""

from bastion.bits import mask_of
from bastion.code import Code
from bastion.errors import InvalidSize

# The character of a data qubit is at the place 1 if x contains it, plus 2 if z does.
CHARACTERS = ".XZY"


def check_size(rows, columns):
    """Raises InvalidSize if a patch has too few rows or columns."""
    if rows < 2 or columns < 2:
        raise InvalidSize("a patch has at least 2 rows and 2 columns")


def touched(rows, columns, i, j):
    """Returns the northwest, northeast, southwest and southeast data qubit of a corner, -1 for a missing one."""
    check_size(rows, columns)
    places = [(r, c) for r in (i - 1, i) for c in (j - 1, j)]
    return [r * columns + c if 0 <= r < rows and 0 <= c < columns else -1 for r, c in places]


def qubits_at(rows, columns, i, j):
    """Returns the list of the data qubits that a corner touches."""
    return [q for q in touched(rows, columns, i, j) if q >= 0]


def corner_letter(i, j):
    """Returns the letter of a corner."""
    return "X" if (i + j) % 2 == 0 else "Z"


def has_check(rows, columns, i, j):
    """Returns True if a corner carries a check, otherwise False."""
    count = len(qubits_at(rows, columns, i, j))
    at_edge = i in (0, rows) if corner_letter(i, j) == "X" else j in (0, columns)
    return count == 4 or (count == 2 and at_edge)


def corners(rows, columns):
    """Returns the list of the tuples (letter, i, j) of all corners with a check."""
    check_size(rows, columns)
    places = [(i, j) for i in range(rows + 1) for j in range(columns + 1)]
    return [(corner_letter(i, j), i, j) for i, j in places if has_check(rows, columns, i, j)]


def check_mask(rows, columns, i, j):
    """Returns the mask of the data qubits that a corner touches."""
    return mask_of(qubits_at(rows, columns, i, j))


def corner_paulis(rows, columns):
    """Returns the list of the operators of the checks, in order."""
    masks = [(letter, check_mask(rows, columns, i, j)) for letter, i, j in corners(rows, columns)]
    return [(0, mask, 0) if letter == "X" else (0, 0, mask) for letter, mask in masks]


def patch(rows, columns):
    """Returns the code of a patch."""
    checks = corner_paulis(rows, columns)
    return Code(
        rows * columns,
        [x for _, x, _ in checks if x],
        [z for _, _, z in checks if z],
        [mask_of([r * columns for r in range(rows)])],
        [mask_of(list(range(columns)))],
    )


def draw(rows, columns, x, z):
    """Returns a text that shows an error, one line for each row."""
    check_size(rows, columns)
    characters = [CHARACTERS[(x >> q & 1) + 2 * (z >> q & 1)] for q in range(rows * columns)]
    lines = [characters[r * columns:(r + 1) * columns] for r in range(rows)]
    return "".join(["".join(line) + "\n" for line in lines])
