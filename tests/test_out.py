"""Promise 3: cw_out."""

import unittest

from lowestwins.frames import frame_bits, stuffed
from lowestwins.node import answers
from lowestwins.wire import IDLE, IN_FRAME, IN_TAIL, OFF, TELLING, WAITING, Node

SEND = [1, 5, 1, 1, 0]
REFUSED = [1, 2048, 0, 0]


class OutByCalls(unittest.TestCase):
    """The states that begin and send reach: it waits, and wants to send or not."""

    def test_waiting_and_wanting_nothing(self):
        self.assertEqual(answers([0, 2]), [1, 0, 1, 1])

    def test_waiting_and_wanting_to_send(self):
        self.assertEqual(answers([0] + SEND + [2]), [1, 0, 1, 0, 1, 1])

    def test_after_refusals(self):
        self.assertEqual(
            answers([0] + REFUSED + [2] + SEND + SEND + [2]),
            [1, 0, 1, -2, 1, 1, 1, 0, 1, -1, 1, 1],
        )

    def test_begun_anew(self):
        self.assertEqual(answers([0] + SEND + [2, 0, 2]), [1, 0, 1, 0, 1, 1, 1, 0, 1, 1])

    def test_asking_does_not_move_the_node(self):
        self.assertEqual(answers([0] + SEND + [2] * 50), [1, 0, 1, 0] + [1, 1] * 50)


def node_in(state, wanting):
    node = Node()
    node.state = state
    if wanting:
        node.send(5, 2, [0, 255])
    return node


class OutByState(unittest.TestCase):
    """What a node puts on the wire in each state, wherever it came from."""

    def test_idle(self):
        self.assertEqual(node_in(IDLE, False).out(), 1)
        self.assertEqual(node_in(IDLE, True).out(), 0)

    def test_a_sender_within_a_frame_puts_the_next_bit(self):
        node = node_in(IN_FRAME, True)
        node.is_sender = True
        put = []
        for place in range(len(node.wanted)):
            node.frame_at = place
            put.append(node.out())
        self.assertEqual(put, stuffed(frame_bits(5, [0, 255])))

    def test_a_hearer_within_a_frame_puts_1(self):
        for wanting in (False, True):
            node = node_in(IN_FRAME, wanting)
            for place in range(20):
                node.frame_at = place
                self.assertEqual(node.out(), 1)

    def test_a_tail_is_0_only_where_a_hearer_confirms(self):
        for place in range(10):
            for is_sender in (False, True):
                for sum_is_right in (False, True):
                    node = node_in(IN_TAIL, True)
                    node.tail_at = place
                    node.is_sender = is_sender
                    node.sum_is_right = sum_is_right
                    confirmed = place == 1 and sum_is_right and not is_sender
                    self.assertEqual(node.out(), 0 if confirmed else 1)

    def test_telling_an_error(self):
        self.assertEqual(node_in(TELLING, False).out(), 0)
        self.assertEqual(node_in(TELLING, True).out(), 0)

    def test_waiting_and_off(self):
        for state in (WAITING, OFF):
            for wanting in (False, True):
                self.assertEqual(node_in(state, wanting).out(), 1)


if __name__ == "__main__":
    unittest.main()
