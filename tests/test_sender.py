"""Promise 4: cw_hear within a frame, as its sender."""

import unittest

from helper import BEHIND_ERROR, BETWEEN, CONFIRMED, IDLE, IN_FRAME, IN_TAIL, TELLING, WAITING
from helper import bits, frame, idle, places, plain, send, steps

FRAMES = (
    (0, []),
    (0, [0] * 8),
    (2047, []),
    (2047, [255] * 8),
    (5, [1]),
    (32, [7]),
    (992, [31, 0]),
    (1055, []),
    (1056, [255, 254]),
    (1365, [85, 170, 85, 170, 85]),
    (2016, [1, 2, 3, 4, 5, 6, 7, 8]),
)


def stuffed_places(name, data):
    """Where on the wire the stuffed bits stand, but for one behind the sum."""
    before = places(plain(name, data))
    return [place for place in range(len(before) - 1) if before[place] == before[place + 1]]


class Through(unittest.TestCase):
    def test_its_own_frame_comes_through(self):
        for name, data in FRAMES:
            row = frame(name, data)
            node = idle(send(name, data))
            expected = [(IDLE, 0, 0)] + [(IN_FRAME, bit, 0) for bit in row[1:]]
            expected += [(IN_TAIL, 1, 0)] * 9 + [(IN_TAIL, 1, 2)]
            self.assertEqual(steps(node, row + CONFIRMED), expected)
            self.assertEqual((node.state(), node.out(), node.errors()), (WAITING, 1, (0, 0)))
            self.assertFalse(node.wants())
            self.assertEqual(node.looked(), [-1])

    def test_behind_it_nothing_is_sent(self):
        node = idle(send(5))
        node.hear(frame(5) + CONFIRMED + BETWEEN)
        self.assertEqual((node.state(), node.out()), (IDLE, 1))

    def test_it_may_send_again(self):
        node = idle()
        for name, data in FRAMES:
            row = frame(name, data) + CONFIRMED
            self.assertEqual(node.one(send(name, data)), 0)
            self.assertEqual(node.hear(row), [0] * (len(row) - 1) + [2])
            node.hear(BETWEEN)

    def test_it_wants_it_until_the_last_bit_of_the_tail(self):
        row = frame(5, [9]) + CONFIRMED
        node = idle(send(5, [9]))
        for bit in row:
            self.assertTrue(node.wants())
            node.hear([bit])
        self.assertFalse(node.wants())


class Differing(unittest.TestCase):
    def test_the_other_bit_in_every_place(self):
        for name, data in FRAMES:
            row = frame(name, data)
            before = places(plain(name, data))
            stuffed = stuffed_places(name, data)
            for place in range(1, len(row)):
                node = idle(send(name, data))
                node.hear(row[:place])
                may_lose = row[place] == 1 and before[place] < 12
                answer = 4 if may_lose and place not in stuffed else 3
                self.assertEqual(steps(node, [1 - row[place]]), [(IN_FRAME, row[place], answer)])
                errors = (0, 0) if answer == 4 else (0, 1) if may_lose else (8, 0)
                self.assertEqual(node.errors(), errors)
                self.assertEqual(node.state(), IN_FRAME if answer == 4 else TELLING)
                self.assertEqual(node.out(), 1 if answer == 4 else 0)
                self.assertTrue(node.wants())

    def test_a_0_for_the_1_that_is_the_names_first_bit(self):
        node = idle(send(1024))
        self.assertEqual(node.hear([0, 0]), [0, 4])
        self.assertEqual((node.state(), node.out(), node.errors()), (IN_FRAME, 1, (0, 0)))

    def test_a_0_for_the_1_that_is_the_names_last_bit(self):
        node = idle(send(1365))
        self.assertEqual(node.hear(frame(1364)[:12]), [0] * 11 + [4])
        self.assertEqual((node.state(), node.errors()), (IN_FRAME, (0, 0)))

    def test_a_0_for_a_1_behind_the_name_is_its_error(self):
        node = idle(send(1365, [0] * 8))
        row = frame(1365, [])
        self.assertEqual(node.hear(row[:16]), [0] * 15 + [3])
        self.assertEqual((node.state(), node.errors()), (TELLING, (8, 0)))

    def test_a_0_for_a_1_stuffed_in_among_the_first_twelve(self):
        # Five 0 with the first bit, within the name, and right before the name's last bit.
        for name, place in ((64, 5), (0b10000011111, 7), (0b01010000011, 10), (0b10101000001, 11)):
            row = frame(name)
            self.assertEqual(row[place - 5:place + 1], [0, 0, 0, 0, 0, 1])
            node = idle(send(name))
            self.assertEqual(node.hear(row[:place] + [0]), [0] * place + [3])
            self.assertEqual((node.state(), node.errors()), (TELLING, (0, 1)))
            self.assertTrue(node.wants())

    def test_a_0_for_a_1_stuffed_in_behind_the_name(self):
        row = frame(0b10101100000)
        self.assertEqual(row[:13], bits("0 10101100000 1"))
        node = idle(send(0b10101100000))
        self.assertEqual(node.hear(row[:12] + [0]), [0] * 12 + [3])
        self.assertEqual((node.state(), node.errors()), (TELLING, (8, 0)))

    def test_twelve_are_counted_without_stuffed_bits(self):
        # The name's last bit is the wire's fifteenth: two bits are stuffed in before it.
        row = frame(1)
        self.assertEqual(row[:14], bits("00000 1 00000 1 0 1"))
        node = idle(send(1))
        self.assertEqual(node.hear(row[:13] + [0]), [0] * 13 + [4])
        self.assertEqual((node.state(), node.errors()), (IN_FRAME, (0, 0)))

    def test_a_1_for_its_0_is_its_error_even_in_the_name(self):
        node = idle(send(0))
        self.assertEqual(node.hear([0, 1]), [0, 3])
        self.assertEqual((node.state(), node.errors()), (TELLING, (8, 0)))


class Outdone(unittest.TestCase):
    def test_it_gets_the_others_frame_and_sends_its_own_next(self):
        pairs = ((2047, 0), (2047, 1023), (1365, 1364), (1, 0), (1024, 1023), (6, 5), (1000, 999), (0x7F0, 0x70F))
        for own, other in pairs:
            for data in ([], [255] * 8, [1, 2, 3]):
                node = idle(send(own, [7, 8]))
                row = frame(other, data) + CONFIRMED
                heard = node.hear(row)
                self.assertEqual(heard.count(4), 1)
                self.assertEqual(sorted(heard), [0] * (len(row) - 2) + [1, 4])
                self.assertEqual(heard[-1], 1)
                self.assertEqual(node.looked(), [len(data) + 3, other >> 8, other & 255, len(data)] + data)
                self.assertTrue(node.wants())
                self.assertEqual(node.hear(BETWEEN), [0] * 3)
                self.assertEqual((node.state(), node.out()), (IDLE, 0))
                row = frame(own, [7, 8])
                put = steps(node, row + CONFIRMED)
                self.assertEqual([bit for state, bit, answer in put[:len(row)]], row)
                self.assertEqual([answer for state, bit, answer in put], [0] * (len(row) + 9) + [2])
                self.assertEqual(node.errors(), (0, 0))

    def test_as_a_hearer_it_puts_1_and_confirms(self):
        node = idle(send(2047))
        row = frame(1023, [0])
        node.hear(row[:2])
        put = [bit for state, bit, answer in steps(node, row[2:] + CONFIRMED)]
        self.assertEqual(put, [1] * (len(row) - 2) + [1, 0] + [1] * 8)

    def test_as_a_hearer_its_errors_are_a_hearers(self):
        node = idle(send(2047))
        self.assertEqual(node.hear([0, 0, 0, 0, 0, 0]), [0, 4, 0, 0, 0, 3])
        self.assertEqual(node.errors(), (0, 1))

    def test_it_is_outdone_only_once_in_a_frame(self):
        node = idle(send(2047))
        self.assertEqual(node.hear([0, 0, 1, 0, 0]), [0, 4, 0, 0, 0])

    def test_it_may_be_outdone_again_in_the_next_frame(self):
        node = idle(send(2047))
        for other in (3, 2, 1):
            heard = node.hear(frame(other) + CONFIRMED)
            self.assertEqual((heard.count(4), heard[-1]), (1, 1))
            node.hear(BETWEEN)
        self.assertTrue(node.wants())

    def test_a_name_that_is_alike_and_other_bytes_are_an_error(self):
        node = idle(send(5, [0b10000000]))
        heard = node.hear(frame(5, [0])[:len(frame(5, [0b10000000]))])
        self.assertIn(3, heard)
        self.assertNotIn(4, heard)
        self.assertEqual(node.errors(), (8, 0))

    def test_an_error_and_then_its_own_anew_from_the_first_bit(self):
        node = idle(send(5, [6]))
        row = frame(5, [6])
        node.hear(row[:20] + [1 - row[20]])
        self.assertEqual(node.state(), TELLING)
        node.hear(BEHIND_ERROR)
        self.assertEqual(node.state(), IDLE)
        put = steps(node, row + CONFIRMED)
        self.assertEqual([bit for state, bit, answer in put[:len(row)]], row)
        self.assertEqual(put[-1][-1], 2)


if __name__ == "__main__":
    unittest.main()
