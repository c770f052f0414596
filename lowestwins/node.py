"""The calls on one node, handed in as one list of whole numbers."""

from lowestwins.wire import Node

BEGIN = 0
SEND = 1
OUT = 2
HEAR = 3
LOOK = 4
COUNT = 5

# The call's number, id, n, and how many bytes follow.
SEND_HEAD = 4


class UnknownCall(ValueError):
    """No call has this number."""


def answers(calls):
    """Each call's answer, in order, with how many numbers it has before it."""
    node = Node()
    given = []
    start = 0
    while start < len(calls):
        end = end_of_call(calls, start)
        answer = answer_to(node, calls[start:end])
        given.append(len(answer))
        given.extend(answer)
        start = end
    return given


def end_of_call(calls, start):
    """Where the call that starts here is over."""
    if calls[start] == SEND:
        return start + SEND_HEAD + calls[start + SEND_HEAD - 1]
    if calls[start] == HEAR or calls[start] == COUNT:
        return start + 2
    return start + 1


def answer_to(node, call):
    """The numbers that one call answers."""
    number = call[0]
    if number == BEGIN:
        return [node.begin()]
    if number == SEND:
        return [node.send(call[1], call[2], call[SEND_HEAD:])]
    if number == OUT:
        return [node.out()]
    if number == HEAR:
        return [node.hear(call[1])]
    if number == LOOK:
        return node.look()
    if number == COUNT:
        return [node.counted(call[1])]
    raise UnknownCall(f"no call has the number {number}")
