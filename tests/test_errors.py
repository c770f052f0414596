"""Promise 4: cw_hear while an error is told, and of a node that is off."""

import unittest
from itertools import product

from helper import BEGIN, BEHIND_ERROR, BETWEEN, CONFIRMED, HIGHEST, IDLE, IN_FRAME, LOOK, LOWEST, OFF, OUT
from helper import TELLING, TO_IDLE, WAITING, Asked, count, frame, hear, hearing, idle, send, steps

BAD_BITS = (LOWEST, LOWEST + 1, -2, -1, 2, 3, 10, 255, HIGHEST - 1, HIGHEST)

# A 1 for the 0 that an idle node with the name 0 puts in its second bit, and the way back to being idle.
SENDERS_ERROR = [0, 1] + BEHIND_ERROR
HEARERS_ERROR = [0] * 6 + BEHIND_ERROR


def as_hearer():
    """A node that begins to tell an error that it found as a hearer."""
    node = idle()
    assert node.hear([0] * 6)[-1] == 3
    return node


def as_sender():
    """A node that begins to tell an error that it found as a sender."""
    node = idle(send(0))
    assert node.hear([0, 1])[-1] == 3
    return node


def off():
    """A node that is off, and got the frame 5 before."""
    node = idle(*hearing(frame(5, [6]) + CONFIRMED + BETWEEN), send(0))
    heard = node.hear((SENDERS_ERROR * 32)[:-17])
    assert heard[-1] == 5
    return node


class Telling(unittest.TestCase):
    def test_six_bits_whatever_the_wire_has(self):
        for begin, wants in ((as_hearer, False), (as_sender, True)):
            start = begin()
            for row in product((0, 1), repeat=6):
                node = Asked()
                node.calls = start.calls
                self.assertEqual(steps(node, row), [(TELLING, 0, 0)] * 6)
                self.assertEqual((node.state(), node.out(), node.wants()), (WAITING, 1, wants))

    def test_then_it_waits_with_no_ones_heard(self):
        for begin in (as_hearer, as_sender):
            for row in ([0] * 6, [1] * 6):
                node = begin()
                node.hear(row)
                self.assertEqual(steps(node, [1] * 11), [(WAITING, 1, 0)] * 11)
                self.assertEqual(node.state(), IDLE)

    def test_each_telling_is_six_bits_long(self):
        node = idle()
        for time in range(3):
            self.assertEqual(node.hear([0] * 6), [0] * 5 + [3])
            self.assertEqual(steps(node, [1] * 6), [(TELLING, 0, 0)] * 6)
            self.assertEqual(steps(node, [1] * 11), [(WAITING, 1, 0)] * 11)

    def test_an_error_cut_short_by_a_begin(self):
        node = idle(*hearing([0] * 6 + [1] * 3), BEGIN, *hearing(TO_IDLE + [0] * 6))
        self.assertEqual(steps(node, [1] * 6), [(TELLING, 0, 0)] * 6)
        self.assertEqual(node.state(), WAITING)

    def test_it_is_no_sender_any_more_and_wants_what_it_wanted(self):
        node = as_sender()
        node.hear(BEHIND_ERROR)
        self.assertEqual((node.state(), node.out(), node.wants()), (IDLE, 0, True))
        row = frame(0)
        put = steps(node, row + CONFIRMED)
        self.assertEqual([bit for state, bit, answer in put[:len(row)]], row)
        self.assertEqual(put[-1][-1], 2)
        self.assertEqual(node.errors(), (7, 0))


class Off(unittest.TestCase):
    def test_at_256_it_is_off_and_says_so_once(self):
        node = idle(send(0))
        for time in range(1, 32):
            self.assertEqual(node.hear([0, 1]), [0, 3])
            self.assertEqual(node.errors(), (8 * time, 0))
            node.hear(BEHIND_ERROR)
        self.assertEqual((node.state(), node.errors()), (IDLE, (248, 0)))
        self.assertEqual(steps(node, [0, 1]), [(IDLE, 0, 0), (IN_FRAME, 0, 5)])
        self.assertEqual((node.state(), node.out(), node.errors()), (OFF, 1, (256, 0)))
        self.assertEqual(steps(node, [0, 1]), [(OFF, 1, 0)] * 2)

    def test_above_256_it_is_off_with_256(self):
        # 248, and then 1 to 7 frames that come through before the next errors.
        for through in range(1, 8):
            node = idle(send(0))
            node.hear(SENDERS_ERROR * 31)
            for time in range(through):
                self.assertEqual(node.hear(frame(0) + CONFIRMED)[-1], 2)
                node.ask(send(0))
                node.hear(BETWEEN)
            self.assertEqual(node.errors(), (248 - through, 0))
            self.assertEqual(node.hear([0, 1]), [0, 3])
            self.assertEqual(node.errors(), (256 - through, 0))
            node.hear(BEHIND_ERROR)
            self.assertEqual(node.hear([0, 1]), [0, 5])
            self.assertEqual((node.state(), node.errors()), (OFF, (256, 0)))

    def test_nothing_changes_from_then_on(self):
        node = off()
        before = node.all_of_it()
        self.assertEqual(before, (OFF, 1, (256, 0), [4, 0, 5, 1, 6], True))
        for row in ([1] * 30, [0] * 30, frame(3) + CONFIRMED, SENDERS_ERROR, TO_IDLE + frame(3) + CONFIRMED):
            self.assertEqual(steps(node, row), [(OFF, 1, 0)] * len(row))
            self.assertEqual(node.all_of_it(), before)

    def test_it_may_be_off_by_an_error_in_its_tail(self):
        node = idle(send(0))
        node.hear(SENDERS_ERROR * 31)
        self.assertEqual(node.hear(frame(0) + [1, 1])[-2:], [0, 5])
        self.assertEqual((node.state(), node.errors()), (OFF, (256, 0)))

    def test_errors_as_a_hearer_never_make_it_off(self):
        node = idle()
        heard = node.hear(HEARERS_ERROR * 300)
        self.assertEqual((heard.count(3), heard.count(5)), (300, 0))
        self.assertEqual((node.state(), node.errors()), (IDLE, (0, 127)))

    def test_it_wants_what_it_wanted(self):
        node = off()
        self.assertEqual(node.one(send(7)), -1)
        self.assertEqual(node.one(send(2048)), -2)
        self.assertEqual(node.state(), OFF)

    def test_a_begin_begins_it_anew(self):
        node = off()
        self.assertEqual(node.one(BEGIN), 0)
        self.assertEqual(node.all_of_it(), (WAITING, 1, (0, 0), [-1], False))
        node.hear(TO_IDLE)
        self.assertEqual(node.one(send(0)), 0)
        self.assertEqual(node.hear(frame(0) + CONFIRMED)[-1], 2)


class RefusedBits(unittest.TestCase):
    def test_in_each_state(self):
        nodes = {
            IDLE: idle(), IN_FRAME: idle(hear(0)), 2: idle(*hearing(frame(5) + [1])),
            TELLING: as_hearer(), WAITING: Asked(), OFF: off(),
        }
        wanting = {
            IDLE: idle(send(5)), IN_FRAME: idle(send(5), hear(0)), 2: idle(send(5), *hearing(frame(5) + [1])),
            TELLING: as_sender(), WAITING: Asked(send(5)),
        }
        for kinds in (nodes, wanting):
            for state, node in kinds.items():
                before = node.all_of_it()
                self.assertEqual(before[0], state)
                for bit in BAD_BITS:
                    self.assertEqual(node.one(hear(bit)), -2)
                    self.assertEqual(node.all_of_it(), before)

    def test_nothing_is_done_and_nothing_kept(self):
        """Between all bits of a long story the wrong ones leave its answers as they are."""
        story = TO_IDLE + frame(5, [1]) + CONFIRMED + BETWEEN + [0] * 6 + BEHIND_ERROR + frame(5, [1]) + CONFIRMED
        story = [send(7, [0])] + hearing(story + BETWEEN + frame(7, [0]) + CONFIRMED + [1, 0] + TO_IDLE)
        asides = [hear(2), hear(-1), count(3), count(-1), send(2048), OUT, LOOK, count(0), count(1), count(2)]
        plainly = Asked().ask(*story)
        mixed = Asked().ask(*[call for told in story for call in [told] + asides])
        self.assertTrue(mixed[::len(asides) + 1] == plainly)
        self.assertTrue(mixed[1::len(asides) + 1] == [[-2]] * len(story))
        told = [answer for [answer] in plainly]
        self.assertEqual([told.count(answer) for answer in (1, 2, 3, 4)], [2, 1, 1, 2])


if __name__ == "__main__":
    unittest.main()
