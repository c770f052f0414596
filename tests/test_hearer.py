"""Promise 4: cw_hear within a frame, as a hearer."""

import unittest

from helper import CONFIRMED, IDLE, IN_FRAME, IN_TAIL, TELLING, UNCONFIRMED, WAITING
from helper import bits, frame, hear, idle, places, plain, send, steps, stuff

FRAMES = (
    (0, []),
    (0, [0] * 8),
    (2047, []),
    (2047, [255] * 8),
    (5, [1]),
    (255, [0, 255]),
    (256, [0b11111000, 0b00111110, 0b00001111]),
    (1024, [128, 0, 0, 1]),
    (1365, [85, 170, 85, 170, 85]),
    (1999, [1, 2, 3, 4, 5, 6]),
    (1, [10, 20, 30, 40, 50, 60, 70]),
    (682, [200, 100, 50, 25, 12, 6, 3, 1]),
)


def ends_in(text):
    """Some names whose sum, without bytes, ends in five alike that are not a stuffed bit and four more."""
    return [name for name in range(2048) if "".join(map(str, frame(name)[:-1])).endswith(text)
            and places(plain(name))[-1] == 34][:5]


class WholeFrames(unittest.TestCase):
    def test_a_whole_frame_is_got(self):
        for name, data in FRAMES:
            row = frame(name, data)
            for tail in (CONFIRMED, UNCONFIRMED):
                node = idle()
                expected = [(IDLE, 1, 0)] + [(IN_FRAME, 1, 0)] * (len(row) - 1)
                expected += [(IN_TAIL, 1, 0), (IN_TAIL, 0, 0)] + [(IN_TAIL, 1, 0)] * 7 + [(IN_TAIL, 1, 1)]
                self.assertEqual(steps(node, row + tail), expected)
                self.assertEqual((node.state(), node.out(), node.errors()), (WAITING, 1, (0, 0)))
                self.assertEqual(node.looked(), [len(data) + 3, name >> 8, name & 255, len(data)] + data)

    def test_the_frames_have_stuffed_bits_of_both_kinds(self):
        zeros, ones = stuff(plain(0)), stuff(plain(2047))
        self.assertGreater(len(zeros), 34)
        self.assertEqual(zeros[5], 1)
        self.assertEqual(ones[6], 0)

    def test_every_name(self):
        for name in range(2048):
            node = idle()
            row = frame(name)
            self.assertEqual(node.hear(row + CONFIRMED), [0] * (len(row) + 9) + [1])
            self.assertEqual(node.looked(), [3, name >> 8, name & 255, 0])

    def test_five_alike_at_the_very_end_of_the_sum(self):
        for text, stuffed_bit in (("00000", 1), ("11111", 0)):
            names = ends_in(text)
            self.assertEqual(len(names), 5)
            for name in names:
                row = frame(name)
                self.assertEqual(row[-1], stuffed_bit)
                node = idle()
                node.hear(row[:-1])
                self.assertEqual(steps(node, row[-1:]), [(IN_FRAME, 1, 0)])
                self.assertEqual(steps(node, CONFIRMED[:2]), [(IN_TAIL, 1, 0), (IN_TAIL, 0, 0)])
                self.assertEqual(node.hear(CONFIRMED[2:]), [0] * 7 + [1])
                self.assertEqual(node.looked(), [3, name >> 8, name & 255, 0])

    def test_a_bit_like_the_five_behind_the_sum_is_an_error(self):
        for text in ("00000", "11111"):
            for name in ends_in(text):
                row = frame(name)
                node = idle()
                node.hear(row[:-1])
                self.assertEqual(steps(node, [1 - row[-1]]), [(IN_FRAME, 1, 3)])
                self.assertEqual((node.state(), node.errors()), (TELLING, (0, 1)))

    def test_four_alike_at_the_end_are_followed_by_the_tail(self):
        row = frame(0)
        self.assertEqual(row[-5:], [1, 0, 0, 0, 0])
        node = idle()
        node.hear(row)
        self.assertEqual(node.state(), IN_TAIL)

    def test_hearing_without_end(self):
        node = idle()
        for name, data in FRAMES:
            row = frame(name, data) + CONFIRMED
            self.assertEqual(node.hear(row), [0] * (len(row) - 1) + [1])
            self.assertEqual(node.looked(), [len(data) + 3, name >> 8, name & 255, len(data)] + data)
            self.assertEqual(node.hear([1] * 3), [0] * 3)
            self.assertEqual(node.state(), IDLE)


class Errors(unittest.TestCase):
    def assert_error_at(self, row, last):
        """These bits are heard without an error, and then the last one is one."""
        node = idle()
        self.assertEqual(set(node.hear(row)), {0})
        self.assertEqual(steps(node, [last]), [(IN_FRAME, 1, 3)])
        self.assertEqual((node.state(), node.out()), (TELLING, 0))
        self.assertEqual(node.errors(), (0, 1))
        self.assertEqual(node.looked(), [-1])

    def test_six_alike_wherever_a_bit_is_stuffed_in(self):
        for name, data in FRAMES:
            row = frame(name, data)
            before = places(plain(name, data)) + [None]
            stuffed_ones = [place for place in range(len(row)) if before[place] == before[place + 1]]
            if row[-6:-1] in ([0] * 5, [1] * 5):
                stuffed_ones.append(len(row) - 1)
            self.assertEqual(len(row) - len(plain(name, data)), len(stuffed_ones))
            for place in stuffed_ones:
                self.assert_error_at(row[:place], 1 - row[place])

    def test_six_alike_at_once(self):
        self.assert_error_at([0] * 5, 0)
        self.assert_error_at([0] + [1] * 5, 1)

    def test_six_alike_with_a_stuffed_bit_among_them(self):
        self.assert_error_at(bits("00000 1 1111"), 1)
        self.assert_error_at(bits("0 11111 0 0000"), 0)

    def test_five_alike_and_the_other_one_are_none(self):
        node = idle()
        self.assertEqual(node.hear(bits("00000 1 11")), [0] * 8)
        self.assertEqual(node.state(), IN_FRAME)

    def test_a_1_in_each_of_the_three_bits_behind_the_name(self):
        for name in (0, 1, 5, 31, 32, 992, 1024, 1023, 2016, 2047):
            for place in range(3):
                self.assert_error_at(stuff(plain(name)[:12 + place]), 1)

    def test_nine_to_fifteen_bytes_told(self):
        for name in (0, 5, 1023, 1024, 2047):
            for length in range(9, 16):
                row = plain(name, length=length)
                self.assert_error_at(stuff(row[:18]), row[18])

    def test_eight_bytes_told_are_none(self):
        for name in (0, 5, 1023, 1024, 2047):
            node = idle()
            self.assertEqual(set(node.hear(stuff(plain(name, length=8)[:19]))), {0})
            self.assertEqual(node.state(), IN_FRAME)

    def test_a_node_that_wants_to_send_hears_like_any_other(self):
        node = idle(hear(0), send(3))
        self.assertEqual(node.hear([0, 0, 0, 0, 0]), [0, 0, 0, 0, 3])
        self.assertEqual(node.errors(), (0, 1))
        self.assertTrue(node.wants())


if __name__ == "__main__":
    unittest.main()
