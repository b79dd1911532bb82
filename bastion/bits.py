"""Masks, integers that stand for sets of numbers, and linear algebra over them."""

from bastion.errors import NoSolution


def weight(mask):
    """Returns the number of members of a mask."""
    return f"{mask:b}".count("1")


def parity(mask):
    """Returns the number of members of a mask modulo 2."""
    return weight(mask) & 1


def members(mask):
    """Returns the ascending list of the members of a mask."""
    found = []
    while mask:
        lowest = mask & -mask
        found.append(lowest.bit_length() - 1)
        mask ^= lowest
    return found


def mask_of(numbers):
    """Returns the mask of the numbers that occur an odd number of times."""
    mask = 0
    for number in numbers:
        mask ^= 1 << number
    return mask


def are_bits(values, count):
    """Returns True if a list has the given number of items and each is a bit, otherwise False."""
    return len(values) == count and all([value in (0, 1) for value in values])


def reduced(basis, mask):
    """Returns the least sum of the mask and some masks of a basis that has the form of an echelon."""
    for row in basis:
        # The sum is less exactly if the mask has the highest bit of the row, which no other row has.
        mask = min(mask, mask ^ row)
    return mask


def echelon(rows):
    """Returns the basis of the span of the rows, in descending order, whose highest bits are in no other mask of it."""
    basis = []
    for row in rows:
        rest = reduced(basis, row)
        if rest:
            highest = 1 << (rest.bit_length() - 1)
            basis = [mask ^ rest if mask & highest else mask for mask in basis]
            basis.append(rest)
    return sorted(basis, reverse=True)


def rank(rows):
    """Returns the rank of a list of masks."""
    return len(echelon(rows))


def in_span(rows, mask):
    """Returns True if the mask is the sum of some of the rows, otherwise False."""
    return reduced(echelon(rows), mask) == 0


def tagged(masks):
    """Returns the masks, each moved up to make room for a tag below it: the bit of its own index."""
    room = len(masks)
    return [mask << room | 1 << k for k, mask in enumerate(masks)]


def least_combination(masks, total):
    """Returns the least mask of indexes of masks that have the sum total."""
    room = len(masks)
    # The tags of a sum tell its parts. Reduction leaves the least tags, because sums that are 0 are in the basis, too.
    rest = reduced(echelon(tagged(masks)), total << room)
    if rest >> room:
        raise NoSolution("the mask is not in the span")
    return rest


def combination(rows, mask):
    """Returns an ascending list of indexes of rows that have the sum mask."""
    return members(least_combination(rows, mask))


def columns_of(rows, width):
    """Returns, for each number below width, the mask of the indexes of the rows that contain it."""
    return [mask_of([k for k, row in enumerate(rows) if row >> number & 1]) for number in range(width)]


def solve(rows, bits):
    """Returns the least mask that has, with each row, a number of members in common of the parity in bits."""
    width = max([row.bit_length() for row in rows], default=0)
    wanted = mask_of([k for k, bit in enumerate(bits) if bit])
    return least_combination(columns_of(rows, width), wanted)


def kernel(rows, width):
    """Returns the echelon of all masks below 2^width that have even parity with every row."""
    sums = echelon(tagged(columns_of(rows, width)))
    # The tags of sums of columns that are 0 are the masks in question, and they have the form of an echelon already.
    return [mask for mask in sums if mask >> width == 0]
