"""Promise 4: cw_hear of a node that waits, and of one that is idle."""

import unittest

from helper import BETWEEN, CONFIRMED, IDLE, IN_FRAME, LOOK, TO_IDLE, WAITING
from helper import Asked, frame, hear, hearing, idle, send, steps


class Waiting(unittest.TestCase):
    def test_eleven_ones_make_it_idle(self):
        node = Asked()
        self.assertEqual(steps(node, TO_IDLE), [(WAITING, 1, 0)] * 11)
        self.assertEqual((node.state(), node.out()), (IDLE, 1))

    def test_what_it_wants_is_put_on_the_wire_no_earlier(self):
        node = Asked(send(5))
        self.assertEqual(steps(node, TO_IDLE), [(WAITING, 1, 0)] * 11)
        self.assertEqual((node.state(), node.out()), (IDLE, 0))

    def test_a_0_and_it_counts_from_none(self):
        for ones in range(11):
            node = Asked(*hearing([1] * ones))
            self.assertEqual(steps(node, [0] + [1] * 10), [(WAITING, 1, 0)] * 11)
            self.assertEqual(node.state(), WAITING)
            self.assertEqual(steps(node, [1]), [(WAITING, 1, 0)])
            self.assertEqual(node.state(), IDLE)

    def test_zeros_keep_it_waiting(self):
        node = Asked(*hearing([0] * 30))
        self.assertEqual((node.state(), node.out(), node.errors()), (WAITING, 1, (0, 0)))

    def test_a_frame_that_went_by_meanwhile_is_not_got(self):
        node = Asked()
        self.assertEqual(set(node.hear(frame(5, [1, 2, 3]) + CONFIRMED)), {0})
        self.assertEqual((node.state(), node.looked()), (WAITING, [-1]))
        # The eight ones of the tail count, as all ones do.
        node.hear(BETWEEN[:-1])
        self.assertEqual(node.state(), WAITING)
        node.hear([1])
        self.assertEqual(node.state(), IDLE)

    def test_six_alike_are_no_error_there(self):
        node = Asked()
        self.assertEqual(node.hear([0] * 6 + [1] * 6 + [0] * 6), [0] * 18)
        self.assertEqual(node.errors(), (0, 0))


class Idle(unittest.TestCase):
    def test_a_1_changes_nothing(self):
        node = idle()
        before = node.all_of_it()
        for place in range(30):
            self.assertEqual(node.one(hear(1)), 0)
            self.assertEqual(node.all_of_it(), before)
        self.assertEqual(before, (IDLE, 1, (0, 0), [-1], False))

    def test_a_1_changes_nothing_where_it_wants_to_send(self):
        node = idle(send(5))
        before = node.all_of_it()
        for place in range(30):
            self.assertEqual(node.one(hear(1)), 0)
            self.assertEqual(node.all_of_it(), before)
        self.assertEqual(before, (IDLE, 0, (0, 0), [-1], True))

    def test_a_0_is_a_frames_first_bit(self):
        node = idle()
        self.assertEqual(steps(node, [0]), [(IDLE, 1, 0)])
        self.assertEqual((node.state(), node.out()), (IN_FRAME, 1))
        # Four more alike make five with that first one, and a sixth is too many.
        self.assertEqual(node.hear([0, 0, 0, 0, 0]), [0, 0, 0, 0, 3])

    def test_ones_before_the_frame_are_not_alike_with_its_own(self):
        node = idle(*hearing([1] * 5))
        self.assertEqual(node.hear(frame(2047) + CONFIRMED)[-1], 1)

    def test_with_a_0_it_is_the_sender_if_it_wants_to_send(self):
        for name, second in ((2047, 1), (1024, 1), (1023, 0), (0, 0)):
            node = idle(send(name))
            self.assertEqual(steps(node, [0]), [(IDLE, 0, 0)])
            self.assertEqual((node.state(), node.out()), (IN_FRAME, second))

    def test_it_may_want_at_the_last_moment(self):
        node = idle()
        self.assertEqual(node.out(), 1)
        self.assertEqual(node.one(send(0)), 0)
        self.assertEqual((node.state(), node.out()), (IDLE, 0))
        node.hear([0])
        self.assertEqual(node.out(), 0)

    def test_it_wants_too_late_for_this_frame(self):
        node = idle(hear(0), send(0))
        row = frame(0)[1:]
        self.assertEqual(steps(node, row), [(IN_FRAME, 1, 0)] * len(row))
        self.assertEqual(node.hear(CONFIRMED)[-1], 1)
        self.assertEqual(node.ask(LOOK), [[3, 0, 0, 0]])
        node.hear(BETWEEN)
        self.assertEqual((node.state(), node.out()), (IDLE, 0))


if __name__ == "__main__":
    unittest.main()
