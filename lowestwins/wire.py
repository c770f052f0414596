"""One node on the wire: what it is at, what it wants, what it puts on the wire, and what it does with its bits."""

from lowestwins.frames import frame_bits, may_be_sent, stuffed
from lowestwins.heard import HeardFrame

IDLE = 0
IN_FRAME = 1
IN_TAIL = 2
TELLING = 3
WAITING = 4
OFF = 5

# The bits of a tail in which hearers confirm the frame, behind which they tell a wrong sum, and with which it ends.
CONFIRMING = 1
SUM_IS_JUDGED = 2
LAST_OF_TAIL = 9

ONES_OF_TAIL = 8
ONES_UNTIL_IDLE = 11
BITS_OF_TELLING = 6

SENDER_ERROR = 8
SENDER_IS_OFF = 256
HEARER_ERROR = 1
MOST_HEARER_ERRORS = 127

DONE = 0
GOT_FRAME = 1
OWN_IS_THROUGH = 2
ERROR = 3
ANOTHER_WINS = 4
NOW_OFF = 5
WANTS_ONE_ALREADY = -1
GOT_NONE = -1
OUT_OF_RANGE = -2

COUNT_SENDER_ERRORS = 0
COUNT_HEARER_ERRORS = 1
COUNT_STATE = 2


class Node:
    """A node. What it wants is kept as the bits that it would put on the wire, stuffed ones too."""

    def __init__(self):
        self.begin()

    def begin(self):
        """Make it a node at first, whatever it was."""
        self.state = WAITING
        self.ones = 0
        self.wanted = None
        self.got = None
        self.sender_errors = 0
        self.hearer_errors = 0
        self.is_sender = False
        self.heard = None
        self.frame_at = 0
        self.tail_at = 0
        self.told = 0
        return DONE

    def send(self, name, length, data):
        """Want to send a frame, or refuse it."""
        # The document ranks the refusals: a frame that can't be comes before one that comes too early.
        if not may_be_sent(name, length):
            return OUT_OF_RANGE
        if self.wanted is not None:
            return WANTS_ONE_ALREADY
        self.wanted = stuffed(frame_bits(name, data))
        return DONE

    def out(self):
        """The bit that it puts on the wire."""
        if self.state == IDLE:
            return 1 if self.wanted is None else 0
        if self.state == IN_FRAME:
            return self.wanted[self.frame_at] if self.is_sender else 1
        if self.state == IN_TAIL:
            return 0 if self.confirms() else 1
        if self.state == TELLING:
            return 0
        return 1

    def confirms(self):
        """Whether it confirms the frame in this bit of the tail."""
        return self.tail_at == CONFIRMING and not self.is_sender and self.heard.sum_is_right()

    def hear(self, bit):
        """Do what the wire's bit asks for, and answer what came of it."""
        if bit != 0 and bit != 1:
            return OUT_OF_RANGE
        if self.state == IDLE:
            return self.hear_idle(bit)
        if self.state == IN_FRAME:
            return self.hear_in_frame(bit)
        if self.state == IN_TAIL:
            return self.hear_in_tail(bit)
        if self.state == TELLING:
            return self.hear_telling()
        if self.state == WAITING:
            return self.hear_waiting(bit)
        return DONE

    def hear_idle(self, bit):
        """Begin a frame at a 0."""
        if bit == 0:
            self.state = IN_FRAME
            self.is_sender = self.wanted is not None
            self.heard = HeardFrame()
            self.heard.take(bit)
            self.frame_at = 1
        return DONE

    def hear_in_frame(self, bit):
        """Go on with the frame, as its sender or as a hearer."""
        answer = DONE
        if self.is_sender and bit != self.out():
            if bit == 1 or self.heard.is_ranked():
                return self.fail()
            # From here on it is a hearer, so what is wrong with this very bit is a hearer's error.
            self.is_sender = False
            answer = ANOTHER_WINS
        self.frame_at += 1
        if not self.heard.take(bit):
            return self.fail()
        if self.heard.is_whole():
            self.state = IN_TAIL
            self.tail_at = 0
        return answer

    def hear_in_tail(self, bit):
        """Go on with the tail, to the frame's end."""
        if not self.fits_tail(bit):
            return self.fail()
        if self.tail_at == LAST_OF_TAIL:
            return self.end_frame()
        self.tail_at += 1
        return DONE

    def fits_tail(self, bit):
        """Whether nothing is wrong in the tail with this bit, and behind it."""
        if self.tail_at == CONFIRMING:
            return bit == 0 or not self.is_sender
        if bit == 0:
            return False
        return self.tail_at != SUM_IS_JUDGED or self.is_sender or self.heard.sum_is_right()

    def end_frame(self):
        """The frame is through: its sender is done with it, a hearer has got it."""
        was_sender = self.is_sender
        self.state = WAITING
        self.ones = ONES_OF_TAIL
        self.is_sender = False
        if was_sender:
            self.wanted = None
            self.sender_errors = max(self.sender_errors - 1, 0)
            return OWN_IS_THROUGH
        self.got = self.heard.contents()
        self.hearer_errors = max(self.hearer_errors - 1, 0)
        return GOT_FRAME

    def fail(self):
        """Count an error, and tell it, or be off."""
        if self.is_sender:
            self.sender_errors = min(self.sender_errors + SENDER_ERROR, SENDER_IS_OFF)
        else:
            self.hearer_errors = min(self.hearer_errors + HEARER_ERROR, MOST_HEARER_ERRORS)
        self.is_sender = False
        if self.sender_errors == SENDER_IS_OFF:
            self.state = OFF
            return NOW_OFF
        self.state = TELLING
        self.told = 0
        return ERROR

    def hear_telling(self):
        """Whatever the wire has, one bit of the telling is over."""
        self.told += 1
        if self.told == BITS_OF_TELLING:
            self.state = WAITING
            self.ones = 0
        return DONE

    def hear_waiting(self, bit):
        """Count the ones in a row."""
        self.ones = self.ones + 1 if bit == 1 else 0
        if self.ones == ONES_UNTIL_IDLE:
            self.state = IDLE
        return DONE

    def look(self):
        """The frame that it has got last, with how many numbers that are before it."""
        if self.got is None:
            return [GOT_NONE]
        return [len(self.got)] + self.got

    def counted(self, what):
        """Its errors as a sender, those as a hearer, or its state."""
        if what == COUNT_SENDER_ERRORS:
            return self.sender_errors
        if what == COUNT_HEARER_ERRORS:
            return self.hearer_errors
        if what == COUNT_STATE:
            return self.state
        return OUT_OF_RANGE
