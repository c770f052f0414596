"""Promise 3: cw_out, in every state that a node comes to."""

import unittest

from helper import BEHIND_ERROR, BETWEEN, CONFIRMED, IDLE, IN_FRAME, IN_TAIL, OFF, OUT, TELLING, WAITING
from helper import Asked, frame, hear, hearing, idle, send, steps
from lowestwins.node import answers

SEND = [1, 5, 1, 1, 0]
REFUSED = [1, 2048, 0, 0]


class AtFirst(unittest.TestCase):
    def test_waiting_and_wanting_nothing(self):
        self.assertEqual(answers([0, 2]), [1, 0, 1, 1])

    def test_waiting_and_wanting_to_send(self):
        self.assertEqual(answers([0] + SEND + [2]), [1, 0, 1, 0, 1, 1])

    def test_after_refusals(self):
        self.assertEqual(
            answers([0] + REFUSED + [2] + SEND + SEND + [2]),
            [1, 0, 1, -2, 1, 1, 1, 0, 1, -1, 1, 1],
        )

    def test_begun_anew(self):
        self.assertEqual(answers([0] + SEND + [2, 0, 2]), [1, 0, 1, 0, 1, 1, 1, 0, 1, 1])


def put_in(state, node, row):
    """What the node puts on the wire in each bit of the row before which it is in that state."""
    return [bit for at, bit, answer in steps(node, row) if at == state]


class InEachState(unittest.TestCase):
    def test_idle(self):
        self.assertEqual(idle().ask(OUT), [[1]])
        self.assertEqual(idle(send(5)).ask(OUT), [[0]])
        self.assertEqual(idle(send(2048)).ask(OUT), [[1]])

    def test_a_sender_within_a_frame_puts_the_next_bit(self):
        for name, data in ((0, []), (5, [0, 255]), (2047, [255] * 8), (1365, [0] * 8)):
            row = frame(name, data)
            self.assertEqual(put_in(IN_FRAME, idle(send(name, data)), row), row[1:])

    def test_a_hearer_within_a_frame_puts_1(self):
        for wanting in ([], [send(3)]):
            row = frame(5, [0, 255])
            node = idle(hear(0), *wanting)
            self.assertEqual(put_in(IN_FRAME, node, row[1:]), [1] * (len(row) - 1))

    def test_a_sender_that_is_outdone_puts_1_from_then_on(self):
        row = frame(0, [0])
        self.assertEqual(put_in(IN_FRAME, idle(send(2047)), row), [1] * (len(row) - 1))

    def test_a_tail_is_0_only_where_a_hearer_confirms(self):
        row = frame(5, [0, 255])
        self.assertEqual(put_in(IN_TAIL, idle(), row + CONFIRMED), [1, 0] + [1] * 8)
        self.assertEqual(put_in(IN_TAIL, idle(hear(0), send(3)), row[1:] + CONFIRMED), [1, 0] + [1] * 8)
        self.assertEqual(put_in(IN_TAIL, idle(send(2047)), row + CONFIRMED), [1, 0] + [1] * 8)
        self.assertEqual(put_in(IN_TAIL, idle(send(5, [0, 255])), row + CONFIRMED), [1] * 10)
        self.assertEqual(put_in(IN_TAIL, idle(), frame(5, [0, 255], wrong=1) + CONFIRMED), [1] * 3)

    def test_telling_an_error(self):
        self.assertEqual(put_in(TELLING, idle(), [0] * 6 + BEHIND_ERROR), [0] * 6)
        self.assertEqual(put_in(TELLING, idle(send(0)), [0, 1] + BEHIND_ERROR), [0] * 6)

    def test_waiting(self):
        for wanting in ([], [send(3)]):
            self.assertEqual(put_in(WAITING, Asked(*wanting), [1] * 11), [1] * 11)
            node = idle(*hearing(frame(5) + CONFIRMED), *wanting)
            self.assertEqual(put_in(WAITING, node, BETWEEN), [1] * 3)
            node = idle(*hearing([0] * 6), *wanting)
            self.assertEqual(put_in(WAITING, node, BEHIND_ERROR), [1] * 11)

    def test_off(self):
        node = idle(send(0), *hearing(([0, 1] + BEHIND_ERROR) * 32))
        self.assertEqual(put_in(OFF, node, [0, 1] * 20), [1] * 40)

    def test_asking_does_not_move_the_node(self):
        nodes = (Asked(send(5)), idle(), idle(send(5)), idle(send(5), hear(0)), idle(*hearing(frame(5) + [1])),
                 idle(*hearing([0] * 6)))
        for node in nodes:
            before = node.all_of_it()
            self.assertEqual(node.ask(*[OUT] * 50), [[before[1]]] * 50)
            self.assertEqual(node.all_of_it(), before)

    def test_the_first_0_and_then_the_rest(self):
        node = idle(send(5))
        self.assertEqual((node.state(), node.out()), (IDLE, 0))


if __name__ == "__main__":
    unittest.main()
