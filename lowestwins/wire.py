"""One node on the wire: what it is at, what it wants, and what it puts on the wire."""

from lowestwins.frames import frame_bits, may_be_sent, stuffed

IDLE = 0
IN_FRAME = 1
IN_TAIL = 2
TELLING = 3
WAITING = 4
OFF = 5

# The bit of a tail in which hearers confirm the frame.
CONFIRMING = 1

DONE = 0
WANTS_ONE_ALREADY = -1
OUT_OF_RANGE = -2


class Node:
    """A node. What it wants is kept as the bits that it would put on the wire, stuffed ones too."""

    def __init__(self):
        self.begin()

    def begin(self):
        """Make it a node at first, whatever it was."""
        self.state = WAITING
        self.ones = 0
        self.wanted = None
        self.got = None
        self.sender_errors = 0
        self.hearer_errors = 0
        self.is_sender = False
        self.frame_at = 0
        self.tail_at = 0
        self.sum_is_right = False
        return DONE

    def send(self, name, length, data):
        """Want to send a frame, or refuse it."""
        # The document ranks the refusals: a frame that can't be comes before one that comes too early.
        if not may_be_sent(name, length):
            return OUT_OF_RANGE
        if self.wanted is not None:
            return WANTS_ONE_ALREADY
        self.wanted = stuffed(frame_bits(name, data))
        return DONE

    def out(self):
        """The bit that it puts on the wire."""
        if self.state == IDLE:
            return 1 if self.wanted is None else 0
        if self.state == IN_FRAME:
            return self.wanted[self.frame_at] if self.is_sender else 1
        if self.state == IN_TAIL:
            return 0 if self.confirms() else 1
        if self.state == TELLING:
            return 0
        return 1

    def confirms(self):
        """Whether it confirms the frame in this bit of the tail."""
        return self.tail_at == CONFIRMING and not self.is_sender and self.sum_is_right
