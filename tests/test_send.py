"""Promise 2: cw_send."""

import unittest

from lowestwins.frames import frame_bits, stuffed
from lowestwins.node import answers
from lowestwins.wire import Node

GOOD_NAMES = (0, 1, 1024, 2046, 2047)
BAD_NAMES = (-2147483648, -2147483647, -2048, -2, -1, 2048, 2049, 4096, 65536, 2147483646, 2147483647)
BAD_LENGTHS = (9, 10, 15, 16, 256, 2147483648, 4294967294, 4294967295)


def send(name, data):
    return [1, name, len(data), len(data)] + data


def send_too_long(name, length):
    return [1, name, length, 0]


def answers_after_begin(calls):
    """The answers behind that of the begin, each of which is one number."""
    given = answers([0] + calls)
    assert given[:2] == [1, 0]
    assert given[2::2] == [1] * (len(given) // 2 - 1)
    return given[3::2]


class Taken(unittest.TestCase):
    def test_every_length(self):
        for length in range(9):
            for byte in (0, 1, 127, 128, 255):
                self.assertEqual(answers_after_begin(send(5, [byte] * length)), [0])

    def test_names_at_the_edges(self):
        for name in GOOD_NAMES:
            for length in (0, 8):
                self.assertEqual(answers_after_begin(send(name, [7] * length)), [0])

    def test_every_name(self):
        calls = []
        for name in range(2048):
            calls += [0] + send(name, [])
        # Told as a truth, since a difference of long lists takes unittest minutes to write out.
        self.assertTrue(answers(calls) == [1, 0] * 4096)

    def test_bytes_that_look_like_calls(self):
        calls = send(5, [0, 1, 2, 3, 4, 5, 0, 0]) + [2]
        self.assertEqual(answers_after_begin(calls), [0, 1])

    def test_what_it_wants_is_that_frame(self):
        for name, data in ((0, []), (2047, []), (5, [255]), (1234, [1, 2, 3, 4, 5, 6, 7, 8])):
            node = Node()
            self.assertEqual(node.send(name, len(data), data), 0)
            self.assertEqual(node.wanted, stuffed(frame_bits(name, data)))


class Refused(unittest.TestCase):
    def test_names_out_of_range(self):
        for name in BAD_NAMES:
            self.assertEqual(answers_after_begin(send(name, [])), [-2])
            self.assertEqual(answers_after_begin(send(name, [1, 2, 3, 4, 5, 6, 7, 8])), [-2])

    def test_too_many_bytes(self):
        for length in BAD_LENGTHS:
            for name in GOOD_NAMES + BAD_NAMES:
                self.assertEqual(answers_after_begin(send_too_long(name, length)), [-2])

    def test_no_bytes_are_read_behind_too_many(self):
        for length in BAD_LENGTHS:
            self.assertEqual(answers_after_begin(send_too_long(5, length) + [2] + send(5, [])), [-2, 1, 0])

    def test_while_it_wants_one_already(self):
        self.assertEqual(answers_after_begin(send(5, []) + send(5, [])), [0, -1])
        self.assertEqual(answers_after_begin(send(5, [1]) + send(0, []) + send(2047, [0] * 8)), [0, -1, -1])

    def test_out_of_range_comes_before_wanting_one_already(self):
        for name in BAD_NAMES:
            self.assertEqual(answers_after_begin(send(5, []) + send(name, [1])), [0, -2])
        for length in BAD_LENGTHS:
            self.assertEqual(answers_after_begin(send(5, []) + send_too_long(5, length)), [0, -2])

    def test_out_of_range_leaves_nothing_wanted(self):
        for bad in (send(-1, []), send(2048, [1]), send_too_long(5, 9), send_too_long(-1, 4294967295)):
            self.assertEqual(answers_after_begin(bad + send(5, [])), [-2, 0])

    def test_a_refusal_while_wanting_changes_nothing(self):
        node = Node()
        node.send(5, 2, [1, 2])
        before = dict(vars(node), wanted=list(node.wanted))
        self.assertEqual(node.send(6, 1, [3]), -1)
        self.assertEqual(node.send(2048, 1, [3]), -2)
        self.assertEqual(node.send(6, 9, []), -2)
        self.assertEqual(vars(node), before)

    def test_a_refusal_at_first_changes_nothing(self):
        node = Node()
        self.assertEqual(node.send(-1, 1, [3]), -2)
        self.assertEqual(node.send(6, 9, []), -2)
        self.assertEqual(vars(node), vars(Node()))


if __name__ == "__main__":
    unittest.main()
