"""Promise 1: cw_begin."""

import unittest

from lowestwins.node import answers
from lowestwins.wire import IN_FRAME, WAITING, Node

BEGIN = [0]
SEND = [1, 5, 1, 1, 255]
OUT = [2]


class Begin(unittest.TestCase):
    def test_answers_0(self):
        self.assertEqual(answers(BEGIN), [1, 0])

    def test_answers_0_each_time(self):
        self.assertEqual(answers(BEGIN * 3), [1, 0] * 3)

    def test_answers_0_to_a_node_that_wants_to_send(self):
        self.assertEqual(answers(BEGIN + SEND + BEGIN), [1, 0] * 3)

    def test_a_second_begin_wants_nothing_any_more(self):
        self.assertEqual(
            answers(BEGIN + SEND + SEND + BEGIN + SEND + SEND),
            [1, 0, 1, 0, 1, -1, 1, 0, 1, 0, 1, -1],
        )

    def test_a_node_at_first_puts_1(self):
        self.assertEqual(answers(BEGIN + OUT + BEGIN + OUT), [1, 0, 1, 1] * 2)

    def assert_is_at_first(self, node):
        self.assertEqual(node.state, WAITING)
        self.assertEqual(node.ones, 0)
        self.assertIsNone(node.wanted)
        self.assertIsNone(node.got)
        self.assertEqual(node.sender_errors, 0)
        self.assertEqual(node.hearer_errors, 0)
        self.assertIs(node.is_sender, False)

    def test_a_new_node_is_at_first(self):
        self.assert_is_at_first(Node())

    def test_begin_forgets_all_of_a_node(self):
        node = Node()
        node.send(5, 0, [])
        node.state = IN_FRAME
        node.ones = 3
        node.got = [0, 5, 0]
        node.sender_errors = 8
        node.hearer_errors = 1
        node.is_sender = True
        self.assertEqual(node.begin(), 0)
        self.assert_is_at_first(node)
        self.assertEqual(vars(node), vars(Node()))


if __name__ == "__main__":
    unittest.main()
