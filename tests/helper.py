"""What the tests share: calls by name, frames written out by the document's words, and nodes to ask."""

from lowestwins.node import answers

BEGIN = [0]
OUT = [2]
LOOK = [4]

IDLE, IN_FRAME, IN_TAIL, TELLING, WAITING, OFF = range(6)

# A tail as it is on the wire where somebody confirms the frame, and where nobody does.
CONFIRMED = [1, 0] + [1] * 8
UNCONFIRMED = [1] * 10

LOWEST, HIGHEST = -2147483648, 2147483647

# What makes a node at first an idle one, and one that has just got or sent a frame.
TO_IDLE = [1] * 11
BETWEEN = [1] * 3
# What brings a node back to being idle behind the bit that was an error.
BEHIND_ERROR = [0] * 6 + [1] * 11


def send(name, data=()):
    return [1, name, len(data), len(data)] + list(data)


def hear(bit):
    return [3, bit]


def count(what):
    return [5, what]


def hearing(bits):
    return [hear(bit) for bit in bits]


def split(given):
    """The answers one by one, each as the list of its numbers."""
    rows = []
    start = 0
    while start < len(given):
        end = start + 1 + given[start]
        assert given[start] > 0 and end <= len(given), "the counts don't fit the numbers"
        rows.append(given[start + 1:end])
        start = end
    return rows


def bits(text):
    return [int(sign) for sign in text if sign != " "]


def remainder(row):
    """The sum by long division, as the document words it."""
    divisor = sum(1 << power for power in (15, 14, 10, 8, 7, 4, 3, 0))
    rest = int("".join(map(str, row)), 2) << 15
    while rest.bit_length() > 15:
        rest ^= divisor << (rest.bit_length() - 16)
    return rest


def plain(name, data=(), length=None, zeros="000", wrong=0):
    """A frame's bits, none stuffed in; the last three make it a wrong one."""
    told = len(data) if length is None else length
    row = bits(f"0{name:011b}{zeros}{told:04b}" + "".join(f"{byte:08b}" for byte in data))
    return row + bits(f"{remainder(row) ^ wrong:015b}")


def stuff(row):
    """The bits as they go over the wire."""
    text = ""
    for bit in row:
        text += str(bit)
        if text.endswith("00000"):
            text += "1"
        elif text.endswith("11111"):
            text += "0"
    return bits(text)


def frame(name, data=(), **wrongs):
    """A frame's bits on the wire, up to its tail."""
    return stuff(plain(name, data, **wrongs))


def places(row):
    """For each bit of the row on the wire: how many bits stand before it, stuffed ones not counted."""
    counted = []
    heard = alike = 0
    last = None
    for bit in stuff(row):
        counted.append(heard)
        if alike == 5:
            alike = 0
        else:
            heard += 1
        alike = alike + 1 if bit == last else 1
        last = bit
    return counted


class Asked:
    """A node that is asked call by call, each time by all its calls anew, so only answers is used."""

    def __init__(self, *calls):
        self.calls = list(BEGIN)
        self.ask(*calls)

    def ask(self, *calls):
        """The answers to these calls, behind all those before them."""
        if not calls:
            return []
        for call in calls:
            self.calls = self.calls + call
        return split(answers(self.calls))[-len(calls):]

    def one(self, call):
        """The answer to one call, which is one number."""
        [answer] = self.ask(call)
        assert len(answer) == 1, f"{call} answered {answer}"
        return answer[0]

    def hear(self, row):
        """The answers to these bits."""
        return [answer for [answer] in self.ask(*hearing(row))]

    def peek(self, call):
        """What one call would answer, without its being asked."""
        return split(answers(self.calls + call))[-1]

    def state(self):
        return self.peek(count(2))[0]

    def out(self):
        return self.peek(OUT)[0]

    def errors(self):
        """Those as a sender and those as a hearer."""
        return self.peek(count(0))[0], self.peek(count(1))[0]

    def looked(self):
        return self.peek(LOOK)

    def wants(self):
        """Whether it wants to send a frame: then another one is refused."""
        return self.peek(send(5)) == [-1]

    def all_of_it(self):
        """All that may be asked of it."""
        return self.state(), self.out(), self.errors(), self.looked(), self.wants()


def idle(*calls):
    """An idle node that has been told these calls."""
    node = Asked(*hearing(TO_IDLE))
    node.ask(*calls)
    return node


def steps(node, row):
    """For each bit: the state and what is put on the wire before it, and its answer."""
    seen = []
    for bit in row:
        seen.append((node.state(), node.out(), node.one(hear(bit))))
    return seen
