"""Records, which tell what was seen of the checks in a life, and the nodes that they fire."""

from bastion.circuit import life_ops
from bastion.faults import run_frame
from bastion.patch import corner_paulis, corners
from bastion.pauli import commute


def check_changes(rows, columns, x, z):
    """Returns a list with a bit for each check: 1 if it does not commute with a Pauli operator."""
    return [int(not commute(check, (0, x, z))) for check in corner_paulis(rows, columns)]


def record_of(rows, columns, rounds, signs, faults):
    """Returns the record of a life with given signs and faults."""
    flips, x, z = run_frame(life_ops(rows, columns, rounds), faults)
    count = len(signs)
    changes = [flips[t * count:(t + 1) * count] for t in range(rounds)]
    changes.append(check_changes(rows, columns, x, z))
    return [list(signs)] + [[sign ^ change for sign, change in zip(signs, row)] for row in changes]


def checks_against(rows, columns, letter):
    """Returns the ascending list of the numbers of the checks of the other letter."""
    return [k for k, corner in enumerate(corners(rows, columns)) if corner[0] != letter]


def fired_nodes(rows, columns, record, letter):
    """Returns the ascending list of the nodes of a letter that a record fires."""
    checks = checks_against(rows, columns, letter)
    seen = [[row[k] for k in checks] for row in record]
    changes = [before != after for t in range(1, len(seen)) for before, after in zip(seen[t - 1], seen[t])]
    return [node for node, change in enumerate(changes) if change]


def changed_checks(rows, columns, letter, first, last):
    """Returns a list with a bit for each check of the other letter: 1 if it differs between two rows of a record."""
    return [first[k] ^ last[k] for k in checks_against(rows, columns, letter)]
