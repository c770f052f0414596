"""The bits of a frame, from its first one to where its tail begins."""

HIGHEST_NAME = 2047
MOST_BYTES = 8

NAME_BITS = 11
LENGTH_BITS = 4
BYTE_BITS = 8
SUM_BITS = 15

# The first 0 and the name: the bits in which one frame may win over another.
RANK_BITS = 12
# Behind the three 0.
LENGTH_AT = 15
HEAD_BITS = 19

# x^14 + x^10 + x^8 + x^7 + x^4 + x^3 + 1: the term x^15 falls out of the sum's fifteen bits.
SUM_POLYNOMIAL = 0x4599
SUM_MASK = 0x7FFF

MOST_ALIKE = 5


def may_be_sent(name, length):
    """Whether there is a frame with this name and so many bytes."""
    return 0 <= name <= HIGHEST_NAME and length <= MOST_BYTES


def bits_of(number, width):
    """The number's lowest bits, so many as the width, the highest first."""
    return [(number >> place) & 1 for place in range(width - 1, -1, -1)]


def number_of(bits):
    """The number that these bits are, the highest first."""
    number = 0
    for bit in bits:
        number = number * 2 + bit
    return number


def sum_with(total, bit):
    """The sum of some bits and one more behind them, where total is the sum of those without it.

    The bit goes in at the top, so the fifteen 0 behind all bits need no steps of their own.
    """
    shifted = (total << 1) & SUM_MASK
    if total >> (SUM_BITS - 1) != bit:
        return shifted ^ SUM_POLYNOMIAL
    return shifted


def sum_of(bits):
    """The sum of a row of bits."""
    total = 0
    for bit in bits:
        total = sum_with(total, bit)
    return total


def frame_bits(name, data):
    """The frame's bits with its sum, nothing stuffed in yet."""
    bits = [0] + bits_of(name, NAME_BITS) + [0, 0, 0] + bits_of(len(data), LENGTH_BITS)
    for byte in data:
        bits.extend(bits_of(byte, BYTE_BITS))
    return bits + bits_of(sum_of(bits), SUM_BITS)


def stuffed(bits):
    """The bits with the other one stuffed in behind each five alike."""
    row = []
    alike = 0
    for bit in bits:
        alike = alike + 1 if row and row[-1] == bit else 1
        row.append(bit)
        if alike == MOST_ALIKE:
            row.append(1 - bit)
            # The stuffed bit counts too: it is the first of the next ones alike.
            alike = 1
    return row
