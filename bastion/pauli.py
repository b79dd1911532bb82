"""Pauli operators, tuples (power, x, z) of a power of i and two masks of qubits."""

from bastion.bits import parity, weight
from bastion.errors import InvalidText

# The place of a letter in this text is 1 if x contains the qubit, plus 2 if z does.
LETTERS = "IXZY"

SIGNS = ("+", "+i", "-", "-i")


def pauli_mul(a, b):
    """Returns the product a b."""
    first_power, first_x, first_z = a
    second_power, second_x, second_z = b
    x = first_x ^ second_x
    z = first_z ^ second_z
    # Each Y is i X Z. Every Z of a that passes an X of b on its way to the right changes the sign.
    turns = weight(first_x & first_z) + weight(second_x & second_z) - weight(x & z)
    passes = weight(first_z & second_x)
    return ((first_power + second_power + turns + 2 * passes) % 4, x, z)


def commute(a, b):
    """Returns True if a b equals b a, otherwise False."""
    return parity((a[1] & b[2]) ^ (a[2] & b[1])) == 0


def pauli_weight(p):
    """Returns the number of letters other than I."""
    return weight(p[1] | p[2])


def negated(p):
    """Returns -p."""
    power, x, z = p
    return ((power + 2) % 4, x, z)


def shifted(p, by):
    """Returns the operator with each letter moved to the qubit that is greater by the given number."""
    power, x, z = p
    return (power, x << by, z << by)


def product_of(paulis):
    """Returns the product of a list of operators, from the left."""
    result = (0, 0, 0)
    for p in paulis:
        result = pauli_mul(result, p)
    return result


def pauli_text(width, p):
    """Returns the text of an operator on width qubits."""
    power, x, z = p
    letters = [LETTERS[(x >> q & 1) + 2 * (z >> q & 1)] for q in range(width)]
    return SIGNS[power] + "".join(letters)


def read_pauli(text):
    """Returns the operator that has the given text."""
    length = 2 if text[1:2] == "i" else 1
    sign = text[:length]
    letters = text[length:]
    if sign not in SIGNS:
        raise InvalidText("the text does not begin with a sign")
    if letters == "":
        raise InvalidText("the text has no letters")
    x = z = 0
    for q, letter in enumerate(letters):
        place = LETTERS.find(letter)
        if place < 0:
            raise InvalidText("the text contains a character that is not a letter of an operator")
        x |= (place & 1) << q
        z |= (place >> 1) << q
    return (SIGNS.index(sign), x, z)
