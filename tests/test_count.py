"""Promise 6: cw_count."""

import unittest

from helper import BEGIN, BEHIND_ERROR, BETWEEN, CONFIRMED, HIGHEST, IDLE, IN_FRAME, IN_TAIL, LOWEST, OFF, TELLING
from helper import WAITING, Asked, count, frame, hear, hearing, idle, send

BAD_WHATS = (LOWEST, LOWEST + 1, -3, -2, -1, 3, 4, 5, 255, HIGHEST - 1, HIGHEST)

SENDERS_ERROR = [0, 1] + BEHIND_ERROR
HEARERS_ERROR = [0] * 6 + BEHIND_ERROR


class SendersErrors(unittest.TestCase):
    def test_none_at_first(self):
        self.assertEqual(Asked().ask(count(0), count(1)), [[0], [0]])

    def test_eight_each(self):
        node = idle(send(0))
        for time in range(1, 32):
            node.hear(SENDERS_ERROR)
            self.assertEqual(node.errors(), (8 * time, 0))

    def test_counted_with_the_very_bit(self):
        node = idle(send(0), hear(0))
        self.assertEqual(node.errors(), (0, 0))
        node.hear([1])
        self.assertEqual(node.errors(), (8, 0))
        node.hear(BEHIND_ERROR)
        self.assertEqual(node.errors(), (8, 0))

    def test_one_less_for_each_of_its_own_through_and_never_below_0(self):
        node = idle(send(0), *hearing(SENDERS_ERROR))
        for left in (7, 6, 5, 4, 3, 2, 1, 0, 0, 0):
            node.hear((frame(0) + CONFIRMED)[:-1])
            before = node.errors()
            node.hear([1])
            self.assertEqual(node.errors(), (left, 0))
            self.assertIn(before[0] - left, (0, 1))
            node.ask(send(0))
            node.hear(BETWEEN)

    def test_a_frame_that_it_got_leaves_them(self):
        node = idle(send(1023), *hearing(SENDERS_ERROR))
        self.assertEqual(node.errors(), (8, 0))
        node.hear(frame(5) + CONFIRMED)
        self.assertEqual((node.looked(), node.errors()), ([3, 0, 5, 0], (8, 0)))

    def test_256_when_off(self):
        node = idle(send(0), *hearing(SENDERS_ERROR * 32))
        self.assertEqual((node.state(), node.errors()), (OFF, (256, 0)))
        node.hear([1] * 20 + SENDERS_ERROR)
        self.assertEqual((node.state(), node.errors()), (OFF, (256, 0)))


class HearersErrors(unittest.TestCase):
    def test_one_each_up_to_127(self):
        node = idle()
        for time in range(1, 131):
            node.hear([0] * 6)
            self.assertEqual(node.errors(), (0, min(time, 127)))
            node.hear(BEHIND_ERROR)

    def test_one_less_than_the_most(self):
        node = idle(*hearing(HEARERS_ERROR * 130 + frame(5) + CONFIRMED))
        self.assertEqual(node.errors(), (0, 126))
        node.hear(BETWEEN + HEARERS_ERROR * 2)
        self.assertEqual(node.errors(), (0, 127))

    def test_one_less_for_each_that_it_got_and_never_below_0(self):
        node = idle(*hearing(HEARERS_ERROR * 3))
        for left in (2, 1, 0, 0, 0):
            node.hear(frame(5, [left]) + CONFIRMED + BETWEEN)
            self.assertEqual(node.errors(), (0, left))

    def test_its_own_through_leaves_them(self):
        node = idle(*hearing(HEARERS_ERROR), send(5))
        self.assertEqual(node.hear(frame(5) + CONFIRMED)[-1], 2)
        self.assertEqual(node.errors(), (0, 1))

    def test_both_kinds_stand_apart(self):
        node = idle(send(0), *hearing(SENDERS_ERROR))
        node.hear(frame(0) + CONFIRMED + BETWEEN + HEARERS_ERROR * 2)
        self.assertEqual(node.errors(), (7, 2))
        node.hear(frame(5) + CONFIRMED + BETWEEN)
        self.assertEqual(node.errors(), (7, 1))
        node.ask(send(5))
        node.hear(frame(5) + CONFIRMED)
        self.assertEqual(node.errors(), (6, 1))
        node.ask(BEGIN)
        self.assertEqual(node.errors(), (0, 0))


class States(unittest.TestCase):
    def test_each_of_the_six(self):
        self.assertEqual(Asked().one(count(2)), WAITING)
        self.assertEqual(idle().one(count(2)), IDLE)
        self.assertEqual(idle(hear(0)).one(count(2)), IN_FRAME)
        self.assertEqual(idle(*hearing(frame(5))).one(count(2)), IN_TAIL)
        self.assertEqual(idle(*hearing([0] * 6)).one(count(2)), TELLING)
        self.assertEqual(idle(send(0), *hearing(SENDERS_ERROR * 32)).one(count(2)), OFF)

    def test_their_numbers_are_the_documents(self):
        self.assertEqual((IDLE, IN_FRAME, IN_TAIL, TELLING, WAITING, OFF), (0, 1, 2, 3, 4, 5))

    def test_through_a_frame(self):
        node = Asked()
        seen = []
        for bit in [1] * 11 + frame(5) + CONFIRMED + BETWEEN:
            seen.append(node.state())
            node.hear([bit])
        length = len(frame(5)) - 1
        self.assertEqual(seen, [4] * 11 + [0] + [1] * length + [2] * 10 + [4] * 3)


class Refused(unittest.TestCase):
    def test_what_is_out_of_range(self):
        nodes = (Asked(), idle(), idle(hear(0)), idle(*hearing(frame(5))), idle(*hearing([0] * 6)),
                 idle(send(0), *hearing(SENDERS_ERROR * 32)))
        for node in nodes:
            before = node.all_of_it()
            for what in BAD_WHATS:
                self.assertEqual(node.one(count(what)), -2)
            self.assertEqual(node.all_of_it(), before)

    def test_counting_changes_nothing(self):
        node = idle(send(0), *hearing(SENDERS_ERROR))
        self.assertEqual(node.ask(*[count(0), count(1), count(2)] * 3), [[8], [0], [0]] * 3)


if __name__ == "__main__":
    unittest.main()
