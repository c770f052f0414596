"""The bits of a frame, which a sender puts on the wire (promises 2 and 3)."""

import unittest

from helper import bits, remainder
from lowestwins.frames import bits_of, frame_bits, number_of, stuffed, sum_of


class Sum(unittest.TestCase):
    def test_the_known_check_value(self):
        self.assertEqual(sum_of(bits("".join(f"{ord(sign):08b}" for sign in "123456789"))), 0x059E)

    def test_short_rows(self):
        self.assertEqual(sum_of([]), 0)
        self.assertEqual(sum_of([0]), 0)
        self.assertEqual(sum_of([1]), 0x4599)

    def test_agrees_with_long_division(self):
        for name in range(0, 2048, 13):
            row = frame_bits(name, [name % 256, name * 7 % 256])
            self.assertEqual(int("".join(map(str, row[-15:])), 2), remainder(row[:-15]))


class Bits(unittest.TestCase):
    def test_the_parts_in_order(self):
        row = frame_bits(0b10000000011, [0b10100000, 0b00000001])
        self.assertEqual(row[:-15], bits("0 10000000011 000 0010 10100000 00000001"))

    def test_lengths(self):
        for length in range(9):
            row = frame_bits(2047, [255] * length)
            self.assertEqual(len(row), 1 + 11 + 3 + 4 + 8 * length + 15)
            self.assertEqual(row[15:19], bits(f"{length:04b}"))

    def test_all_zeros(self):
        self.assertEqual(frame_bits(0, []), [0] * 34)


    def test_numbers_of_bits(self):
        self.assertEqual(number_of([]), 0)
        for number in (0, 1, 2, 1023, 1024, 2046, 2047):
            self.assertEqual(number_of(bits_of(number, 11)), number)


class Stuffed(unittest.TestCase):
    def test_four_alike_stay(self):
        self.assertEqual(stuffed(bits("0000 1111 0000")), bits("0000 1111 0000"))

    def test_nothing(self):
        self.assertEqual(stuffed([]), [])

    def test_behind_five_alike(self):
        self.assertEqual(stuffed(bits("1 00000 0")), bits("1 00000 1 0"))
        self.assertEqual(stuffed(bits("0 11111 1")), bits("0 11111 0 1"))

    def test_the_other_one_is_stuffed_in_whatever_follows(self):
        self.assertEqual(stuffed(bits("00000 1 0")), bits("00000 1 1 0"))

    def test_stuffed_bits_count_too(self):
        self.assertEqual(stuffed(bits("00000 1111 000 0")), bits("00000 1 1111 0 000 0 1"))

    def test_behind_the_last_five(self):
        self.assertEqual(stuffed(bits("1 00000")), bits("1 00000 1"))
        self.assertEqual(stuffed(bits("0 11111")), bits("0 11111 0"))

    def test_a_frame_of_zeros(self):
        self.assertEqual(stuffed(frame_bits(0, [])), bits("000001" * 6 + "0000"))

    def test_no_six_alike_in_any_frame(self):
        for name in range(2048):
            text = "".join(map(str, stuffed(frame_bits(name, []))))
            self.assertNotIn("000000", text)
            self.assertNotIn("111111", text)


if __name__ == "__main__":
    unittest.main()
