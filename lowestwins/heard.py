"""A frame as it is heard from the wire, bit by bit, up to where its tail begins."""

from lowestwins.frames import BYTE_BITS, HEAD_BITS, LENGTH_AT, MOST_ALIKE, MOST_BYTES, RANK_BITS, SUM_BITS
from lowestwins.frames import number_of, sum_with


class HeardFrame:
    """What has been heard of a frame. Its bits are kept without the stuffed ones."""

    def __init__(self):
        self.bits = []
        self.remainder = 0
        self.last = None
        self.alike = 0

    def take(self, bit):
        """Take the wire's next bit; answer whether it may stand there."""
        is_stuffed = self.alike == MOST_ALIKE
        if is_stuffed and bit == self.last:
            return False
        self.alike = self.alike + 1 if bit == self.last else 1
        self.last = bit
        if is_stuffed:
            return True
        self.bits.append(bit)
        self.remainder = sum_with(self.remainder, bit)
        return self.may_go_on()

    def may_go_on(self):
        """Whether the bit heard last is one that a frame may have."""
        heard = len(self.bits)
        if RANK_BITS < heard <= LENGTH_AT:
            return self.bits[-1] == 0
        return heard != HEAD_BITS or self.length() <= MOST_BYTES

    def is_ranked(self):
        """Whether the name has been heard, so that nobody may lose to another any more."""
        return len(self.bits) >= RANK_BITS

    def is_whole(self):
        """Whether all is heard that comes before the tail, a stuffed bit behind the sum too."""
        heard = len(self.bits)
        if heard < HEAD_BITS or self.alike == MOST_ALIKE:
            return False
        return heard == self.sum_at() + SUM_BITS

    def sum_is_right(self):
        """Whether a whole frame has the sum that it should have."""
        # Bits with their own sum behind them leave no remainder, and those with another one always do.
        return self.remainder == 0

    def length(self):
        """How many bytes are told."""
        return number_of(self.bits[LENGTH_AT:HEAD_BITS])

    def sum_at(self):
        """Where the bytes end and the sum begins."""
        return HEAD_BITS + BYTE_BITS * self.length()

    def contents(self):
        """The name's higher byte, its lower one, how many bytes, and these."""
        name = number_of(self.bits[1:RANK_BITS])
        row = [name >> BYTE_BITS, name & 255, self.length()]
        for start in range(HEAD_BITS, self.sum_at(), BYTE_BITS):
            row.append(number_of(self.bits[start:start + BYTE_BITS]))
        return row
