"""Promise 2: cw_send."""

import unittest

from helper import BEHIND_ERROR, BETWEEN, CONFIRMED, IDLE, IN_FRAME, IN_TAIL, OFF, TELLING, WAITING
from helper import Asked, frame, hear, hearing, idle, send, steps
from lowestwins.node import answers
from lowestwins.wire import Node

GOOD_NAMES = (0, 1, 1024, 2046, 2047)
BAD_NAMES = (-2147483648, -2147483647, -2048, -2, -1, 2048, 2049, 4096, 65536, 2147483646, 2147483647)
BAD_LENGTHS = (9, 10, 15, 16, 256, 2147483648, 4294967294, 4294967295)


def send_too_long(name, length):
    return [1, name, length, 0]


def answers_after_begin(calls):
    """The answers behind that of the begin, each of which is one number."""
    given = answers([0] + calls)
    assert given[:2] == [1, 0]
    assert given[2::2] == [1] * (len(given) // 2 - 1)
    return given[3::2]


class Taken(unittest.TestCase):
    def test_every_length(self):
        for length in range(9):
            for byte in (0, 1, 127, 128, 255):
                self.assertEqual(answers_after_begin(send(5, [byte] * length)), [0])

    def test_names_at_the_edges(self):
        for name in GOOD_NAMES:
            for length in (0, 8):
                self.assertEqual(answers_after_begin(send(name, [7] * length)), [0])

    def test_every_name(self):
        calls = []
        for name in range(2048):
            calls += [0] + send(name, [])
        # Told as a truth, since a difference of long lists takes unittest minutes to write out.
        self.assertTrue(answers(calls) == [1, 0] * 4096)

    def test_bytes_that_look_like_calls(self):
        calls = send(5, [0, 1, 2, 3, 4, 5, 0, 0]) + [2]
        self.assertEqual(answers_after_begin(calls), [0, 1])

    def test_what_it_wants_is_that_frame(self):
        for name, data in ((0, []), (2047, []), (5, [255]), (1234, [1, 2, 3, 4, 5, 6, 7, 8])):
            node = Node()
            self.assertEqual(node.send(name, len(data), data), 0)
            self.assertEqual(node.wanted, frame(name, data))


class Refused(unittest.TestCase):
    def test_names_out_of_range(self):
        for name in BAD_NAMES:
            self.assertEqual(answers_after_begin(send(name, [])), [-2])
            self.assertEqual(answers_after_begin(send(name, [1, 2, 3, 4, 5, 6, 7, 8])), [-2])

    def test_too_many_bytes(self):
        for length in BAD_LENGTHS:
            for name in GOOD_NAMES + BAD_NAMES:
                self.assertEqual(answers_after_begin(send_too_long(name, length)), [-2])

    def test_no_bytes_are_read_behind_too_many(self):
        for length in BAD_LENGTHS:
            self.assertEqual(answers_after_begin(send_too_long(5, length) + [2] + send(5, [])), [-2, 1, 0])

    def test_while_it_wants_one_already(self):
        self.assertEqual(answers_after_begin(send(5, []) + send(5, [])), [0, -1])
        self.assertEqual(answers_after_begin(send(5, [1]) + send(0, []) + send(2047, [0] * 8)), [0, -1, -1])

    def test_out_of_range_comes_before_wanting_one_already(self):
        for name in BAD_NAMES:
            self.assertEqual(answers_after_begin(send(5, []) + send(name, [1])), [0, -2])
        for length in BAD_LENGTHS:
            self.assertEqual(answers_after_begin(send(5, []) + send_too_long(5, length)), [0, -2])

    def test_out_of_range_leaves_nothing_wanted(self):
        for bad in (send(-1, []), send(2048, [1]), send_too_long(5, 9), send_too_long(-1, 4294967295)):
            self.assertEqual(answers_after_begin(bad + send(5, [])), [-2, 0])

    def test_a_refusal_while_wanting_changes_nothing(self):
        node = Node()
        node.send(5, 2, [1, 2])
        before = dict(vars(node), wanted=list(node.wanted))
        self.assertEqual(node.send(6, 1, [3]), -1)
        self.assertEqual(node.send(2048, 1, [3]), -2)
        self.assertEqual(node.send(6, 9, []), -2)
        self.assertEqual(vars(node), before)

    def test_a_refusal_at_first_changes_nothing(self):
        node = Node()
        self.assertEqual(node.send(-1, 1, [3]), -2)
        self.assertEqual(node.send(6, 9, []), -2)
        self.assertEqual(vars(node), vars(Node()))

    def test_a_refused_frame_is_not_sent(self):
        node = idle(send(2048), [1, 5, 9, 0])
        self.assertEqual((node.state(), node.out(), node.wants()), (IDLE, 1, False))
        node = idle(send(5, [1]), send(6, [2]))
        self.assertEqual([bit for state, bit, answer in steps(node, frame(5, [1]))], frame(5, [1]))


class InEachState(unittest.TestCase):
    """Whatever goes on, what it wants is taken down, and what goes on goes on."""

    STORY = [1] * 11 + frame(9, [1, 2]) + CONFIRMED + [0] + [1] * 11 + [0] * 6 + BEHIND_ERROR

    def test_it_may_want_at_any_time_while_others_are_heard(self):
        plainly = steps(Asked(), self.STORY)
        self.assertEqual({state for state, bit, answer in plainly}, {IDLE, IN_FRAME, IN_TAIL, TELLING, WAITING})
        for place, (state, bit, answer) in enumerate(plainly):
            if state == IDLE:
                continue
            # Up to the next time that it is idle, from where on it is a sender.
            later = plainly[place:]
            states = [step[0] for step in later]
            length = states.index(IDLE) if IDLE in states else len(states)
            node = Asked(*hearing(self.STORY[:place]))
            self.assertEqual(node.ask(send(3), send(4), send(2048)), [[0], [-1], [-2]])
            self.assertEqual(steps(node, self.STORY[place:place + length]), later[:length])
            self.assertEqual((node.state(), node.out(), node.wants()), (IDLE, 0, True))

    def test_a_sender_wants_one_already_until_it_is_through(self):
        row = frame(3, [4]) + CONFIRMED
        node = idle(send(3, [4]))
        heard = []
        for bit in row:
            self.assertEqual(node.ask(send(2), send(2048)), [[-1], [-2]])
            heard.append(node.one(hear(bit)))
        self.assertEqual(heard, [0] * (len(row) - 1) + [2])
        self.assertEqual(node.one(send(2)), 0)

    def test_off(self):
        node = idle(send(0), *hearing(([0, 1] + BEHIND_ERROR) * 32))
        self.assertEqual(node.ask(send(3), send(2048), [1, 3, 9, 0]), [[-1], [-2], [-2]])
        self.assertEqual((node.state(), node.out()), (OFF, 1))

    def test_what_it_wants_is_what_it_sends(self):
        node = Asked()
        node.hear([1] * 11)
        for name, data in ((2047, []), (0, [0] * 8), (5, [255]), (1234, [1, 2, 3, 4, 5, 6, 7, 8])):
            self.assertEqual(node.one(send(name, data)), 0)
            row = frame(name, data)
            self.assertEqual([bit for state, bit, answer in steps(node, row)], row)
            self.assertEqual(node.hear(CONFIRMED + BETWEEN), [0] * 9 + [2, 0, 0, 0])


if __name__ == "__main__":
    unittest.main()
