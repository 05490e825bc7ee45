"""Rows as numbers: their bits, set, counted and walked."""

# How many bits are set in each number of four bits: strong and odds count some thousand rows, too many for bit by bit.
BITS_OF_FOUR = (0, 1, 1, 2, 1, 2, 2, 3, 1, 2, 2, 3, 2, 3, 3, 4)


def bits_set(row):
    """How many bits of row are set."""
    total = 0
    while row > 0:
        total = total + BITS_OF_FOUR[row & 15]
        row = row >> 4
    return total


def bit_of(row, v):
    """Bit v of row: 0 or 1."""
    return (row >> v) & 1


def with_bit(row, v, on):
    """The row that is like row, but has bit v set (on 1) or not (on 0)."""
    if on == 1:
        return row | (1 << v)
    return row & ~(1 << v)


def first_bits(n):
    """The row in which the bits below n are set and no other."""
    return (1 << n) - 1


def points_of(row):
    """The points whose bits are set in row, the highest first."""
    points = []
    while row > 0:
        v = row.bit_length() - 1
        points.append(v)
        row = row ^ (1 << v)
    return points
