"""Promise 1: cw_begin."""

import unittest

from helper import BEGIN, BEHIND_ERROR, BETWEEN, CONFIRMED, OUT, TO_IDLE, WAITING
from helper import Asked, frame, hear, hearing, idle, send
from lowestwins.node import answers
from lowestwins.wire import Node

SEND = send(5, [255])

HISTORIES = (
    hearing([1] * 10),
    [SEND] + hearing([1] * 10),
    hearing(TO_IDLE),
    hearing(TO_IDLE) + [SEND],
    hearing(TO_IDLE + [0]),
    hearing(TO_IDLE) + [SEND] + hearing([0, 0, 0]),
    hearing(TO_IDLE + frame(5, [255]) + [1]),
    [SEND] + hearing(TO_IDLE + frame(5, [255]) + [1]),
    hearing(TO_IDLE + frame(6) + CONFIRMED + BETWEEN),
    hearing(TO_IDLE + [0] * 6),
    [SEND] + hearing(TO_IDLE + [0, 1] + [0] * 3),
    [send(2047)] + hearing(TO_IDLE + frame(6) + CONFIRMED),
    [send(0)] + hearing(TO_IDLE + ([0, 1] + BEHIND_ERROR) * 32),
)


class Begin(unittest.TestCase):
    def test_answers_0(self):
        self.assertEqual(answers(BEGIN), [1, 0])

    def test_answers_0_each_time(self):
        self.assertEqual(answers(BEGIN * 3), [1, 0] * 3)

    def test_answers_0_to_a_node_that_wants_to_send(self):
        self.assertEqual(answers(BEGIN + SEND + BEGIN), [1, 0] * 3)

    def test_a_second_begin_wants_nothing_any_more(self):
        self.assertEqual(
            answers(BEGIN + SEND + SEND + BEGIN + SEND + SEND),
            [1, 0, 1, 0, 1, -1, 1, 0, 1, 0, 1, -1],
        )

    def test_a_node_at_first_puts_1(self):
        self.assertEqual(answers(BEGIN + OUT + BEGIN + OUT), [1, 0, 1, 1] * 2)

    def test_a_node_at_first(self):
        self.assertEqual(Asked().all_of_it(), (WAITING, 1, (0, 0), [-1], False))

    def test_whatever_was_before_it_is_as_at_first(self):
        later = hearing(TO_IDLE[:10] + [0] + TO_IDLE + frame(9, [8]) + CONFIRMED + BETWEEN + [0] * 6 + BEHIND_ERROR)
        later += [SEND] + hearing(frame(5, [255]) + CONFIRMED)
        expected = Asked().ask(*later)
        for history in HISTORIES:
            node = Asked(*history)
            self.assertEqual(node.one(BEGIN), 0)
            self.assertEqual(node.all_of_it(), (WAITING, 1, (0, 0), [-1], False))
            self.assertTrue(node.ask(*later) == expected)

    def test_it_counts_ones_from_none(self):
        node = Asked(*hearing([1] * 10), BEGIN, *hearing([1] * 10))
        self.assertEqual(node.state(), WAITING)

    def test_nothing_at_all_is_left(self):
        for history in HISTORIES:
            node = Node()
            for call in history:
                if call[0] == 1:
                    node.send(call[1], call[2], call[4:])
                else:
                    node.hear(call[1])
            self.assertNotEqual(vars(node), vars(Node()))
            self.assertEqual(node.begin(), 0)
            self.assertEqual(vars(node), vars(Node()))

    def test_a_begin_within_a_frame_forgets_that_it_was_the_sender(self):
        node = idle(send(0), hear(0), BEGIN, *hearing(TO_IDLE + [0]))
        self.assertEqual(node.out(), 1)


if __name__ == "__main__":
    unittest.main()
