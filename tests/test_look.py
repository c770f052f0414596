"""Promise 5: cw_look."""

import unittest

from helper import BEGIN, BEHIND_ERROR, BETWEEN, CONFIRMED, LOOK, TO_IDLE, UNCONFIRMED
from helper import Asked, frame, hearing, idle, send
from lowestwins.node import answers


class Look(unittest.TestCase):
    def test_none_before_any_is_got(self):
        self.assertEqual(answers(BEGIN + LOOK), [1, 0, 1, -1])
        self.assertEqual(idle().looked(), [-1])

    def test_none_until_the_last_bit_of_the_tail(self):
        node = idle()
        for bit in frame(5, [6]) + CONFIRMED:
            self.assertEqual(node.looked(), [-1])
            node.hear([bit])
        self.assertEqual(node.looked(), [4, 0, 5, 1, 6])

    def test_how_many_numbers_stand_before_them(self):
        calls = sum(hearing(TO_IDLE + frame(0x345, [7, 8]) + CONFIRMED), list(BEGIN)) + LOOK
        self.assertEqual(answers(calls)[-7:], [6, 5, 3, 0x45, 2, 7, 8])

    def test_names_at_the_edges_of_the_bytes(self):
        for name, higher, lower in ((0, 0, 0), (1, 0, 1), (255, 0, 255), (256, 1, 0), (257, 1, 1), (511, 1, 255),
                                    (1024, 4, 0), (1792, 7, 0), (2046, 7, 254), (2047, 7, 255)):
            for data in ([], [1, 2, 3, 4, 5, 6, 7, 8]):
                node = idle(*hearing(frame(name, data) + UNCONFIRMED))
                self.assertEqual(node.looked(), [3 + len(data), higher, lower, len(data)] + data)

    def test_every_length(self):
        for length in range(9):
            for byte in (0, 1, 127, 128, 170, 255):
                node = idle(*hearing(frame(600, [byte] * length) + CONFIRMED))
                self.assertEqual(node.looked(), [3 + length, 2, 88, length] + [byte] * length)

    def test_every_byte_in_its_place(self):
        for start in range(0, 256, 8):
            data = list(range(start, start + 8))
            node = idle(*hearing(frame(start, data) + CONFIRMED))
            self.assertEqual(node.looked(), [11, 0, start, 8] + data)

    def test_looking_takes_nothing_away(self):
        node = idle(*hearing(frame(5, [6]) + CONFIRMED))
        self.assertEqual(node.ask(LOOK, LOOK, LOOK), [[4, 0, 5, 1, 6]] * 3)

    def test_the_last_one_and_no_other(self):
        node = idle(*hearing(frame(5, [6, 7, 8]) + CONFIRMED + BETWEEN))
        row = frame(2000, [9]) + CONFIRMED
        for bit in row:
            self.assertEqual(node.looked(), [6, 0, 5, 3, 6, 7, 8])
            node.hear([bit])
        self.assertEqual(node.looked(), [4, 7, 208, 1, 9])
        node.hear(BETWEEN + frame(1) + CONFIRMED)
        self.assertEqual(node.looked(), [3, 0, 1, 0])

    def test_not_its_own_that_came_through(self):
        node = idle(send(5, [6]))
        self.assertEqual(node.hear(frame(5, [6]) + CONFIRMED)[-1], 2)
        self.assertEqual(node.looked(), [-1])
        node.hear(BETWEEN + frame(9, [1]) + CONFIRMED + BETWEEN)
        node.ask(send(5, [6]))
        self.assertEqual(node.hear(frame(5, [6]) + CONFIRMED)[-1], 2)
        self.assertEqual(node.looked(), [4, 0, 9, 1, 1])

    def test_not_one_that_ended_in_an_error(self):
        bad = (
            [0] * 6,
            frame(7, [8], wrong=1) + [1, 0, 1],
            frame(7, [8]) + [0],
            frame(7, [8]) + [1, 0, 0],
            frame(7, [8]) + CONFIRMED[:9] + [0],
        )
        for row in bad:
            node = idle()
            self.assertEqual(node.hear(row)[-1], 3)
            self.assertEqual(node.looked(), [-1])
            node = idle(*hearing(frame(9, [1]) + CONFIRMED + BETWEEN + row))
            self.assertEqual(node.looked(), [4, 0, 9, 1, 1])
            node.hear(BEHIND_ERROR)
            self.assertEqual(node.looked(), [4, 0, 9, 1, 1])

    def test_not_one_that_it_only_wants_to_send(self):
        self.assertEqual(Asked(send(5, [6])).looked(), [-1])

    def test_nothing_is_got_any_more_behind_a_begin(self):
        node = idle(*hearing(frame(5, [6]) + CONFIRMED))
        self.assertEqual(node.ask(LOOK, BEGIN, LOOK), [[4, 0, 5, 1, 6], [0], [-1]])
        node.hear(TO_IDLE)
        self.assertEqual(node.looked(), [-1])


if __name__ == "__main__":
    unittest.main()
