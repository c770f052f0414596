"""Promise 4: cw_hear in a frame's tail."""

import unittest

from helper import BEHIND_ERROR, CONFIRMED, IDLE, IN_TAIL, TELLING, UNCONFIRMED, WAITING
from helper import frame, idle, plain, send, steps, stuff

NAME, DATA = 1234, [56, 78]
ROW = frame(NAME, DATA)
LOOKED = [5, 4, 210, 2, 56, 78]


def hearer(row=tuple(ROW)):
    """A node in the tail of a frame that it hears."""
    node = idle()
    assert set(node.hear(row)) == {0}
    return node


def sender():
    """A node in the tail of its own frame."""
    node = idle(send(NAME, DATA))
    assert set(node.hear(ROW)) == {0}
    return node


class Hearer(unittest.TestCase):
    def test_bit_1_may_be_any(self):
        for tail in (CONFIRMED, UNCONFIRMED):
            node = hearer()
            expected = [(IN_TAIL, 1, 0), (IN_TAIL, 0, 0)] + [(IN_TAIL, 1, 0)] * 7 + [(IN_TAIL, 1, 1)]
            self.assertEqual(steps(node, tail), expected)
            self.assertEqual((node.state(), node.out(), node.errors()), (WAITING, 1, (0, 0)))
            self.assertEqual(node.looked(), LOOKED)

    def test_a_0_in_each_of_the_others_is_an_error(self):
        for tail in (CONFIRMED, UNCONFIRMED):
            for place in (0, 2, 3, 4, 5, 6, 7, 8, 9):
                node = hearer()
                self.assertEqual(node.hear(tail[:place]), [0] * place)
                self.assertEqual(steps(node, [0]), [(IN_TAIL, 1, 3)])
                self.assertEqual((node.state(), node.out(), node.errors()), (TELLING, 0, (0, 1)))
                self.assertEqual(node.looked(), [-1])

    def test_it_waits_behind_the_tail_with_eight_ones_heard(self):
        node = hearer()
        node.hear(CONFIRMED)
        self.assertEqual(steps(node, [1, 1, 1]), [(WAITING, 1, 0)] * 3)
        self.assertEqual(node.state(), IDLE)

    def test_a_0_behind_the_tail_and_it_counts_from_none(self):
        for ones in range(3):
            node = hearer()
            node.hear(CONFIRMED + [1] * ones)
            self.assertEqual(steps(node, [0] + [1] * 10), [(WAITING, 1, 0)] * 11)
            self.assertEqual(node.state(), WAITING)
            node.hear([1])
            self.assertEqual((node.state(), node.errors()), (IDLE, (0, 0)))


class Sender(unittest.TestCase):
    def test_bit_1_is_to_be_a_0(self):
        node = sender()
        self.assertEqual(steps(node, CONFIRMED), [(IN_TAIL, 1, 0)] * 9 + [(IN_TAIL, 1, 2)])
        self.assertEqual((node.state(), node.out(), node.errors()), (WAITING, 1, (0, 0)))
        self.assertEqual((node.looked(), node.wants()), ([-1], False))

    def test_a_1_there_is_an_error(self):
        node = sender()
        self.assertEqual(steps(node, [1, 1]), [(IN_TAIL, 1, 0), (IN_TAIL, 1, 3)])
        self.assertEqual((node.state(), node.out(), node.errors()), (TELLING, 0, (8, 0)))
        self.assertTrue(node.wants())

    def test_a_0_in_each_of_the_others_is_an_error(self):
        for place in (0, 2, 3, 4, 5, 6, 7, 8, 9):
            node = sender()
            self.assertEqual(node.hear(CONFIRMED[:place]), [0] * place)
            self.assertEqual(steps(node, [0]), [(IN_TAIL, 1, 3)])
            self.assertEqual((node.state(), node.out(), node.errors()), (TELLING, 0, (8, 0)))
            self.assertTrue(node.wants())

    def test_it_waits_behind_the_tail_with_eight_ones_heard(self):
        node = sender()
        node.hear(CONFIRMED)
        self.assertEqual(steps(node, [1, 1, 1]), [(WAITING, 1, 0)] * 3)
        self.assertEqual(node.state(), IDLE)

    def test_behind_its_tail_it_is_no_sender_any_more(self):
        node = sender()
        node.hear(CONFIRMED + [1] * 3)
        row = frame(5, [0, 255])
        put = [bit for state, bit, answer in steps(node, row + CONFIRMED)]
        self.assertEqual(put, [1] * len(row) + [1, 0] + [1] * 8)
        self.assertEqual(node.looked(), [5, 0, 5, 2, 0, 255])


class WrongSum(unittest.TestCase):
    def assert_wrong(self, row):
        for confirming in (0, 1):
            node = hearer(tuple(row))
            expected = [(IN_TAIL, 1, 0), (IN_TAIL, 1, 0), (IN_TAIL, 1, 3)]
            self.assertEqual(steps(node, [1, confirming, 1]), expected)
            self.assertEqual((node.state(), node.out(), node.errors()), (TELLING, 0, (0, 1)))
            self.assertEqual(node.looked(), [-1])

    def test_each_bit_of_the_sum(self):
        for place in range(15):
            self.assert_wrong(frame(NAME, DATA, wrong=1 << place))

    def test_all_bits_of_the_sum(self):
        self.assert_wrong(frame(NAME, DATA, wrong=0x7FFF))
        self.assert_wrong(frame(0, [], wrong=0x7FFF))
        self.assert_wrong(frame(2047, [255] * 8, wrong=0x7FFF))

    def test_each_bit_that_the_sum_is_of(self):
        row = plain(NAME, DATA)
        for place in list(range(1, 12)) + list(range(19, 35)):
            wrong = list(row)
            wrong[place] = 1 - wrong[place]
            self.assert_wrong(stuff(wrong))

    def test_a_0_in_bit_0_or_2_is_one_error_all_the_same(self):
        for tail in ([0], [1, 0, 0], [1, 1, 0]):
            node = hearer(tuple(frame(NAME, DATA, wrong=1)))
            self.assertEqual(node.hear(tail), [0] * (len(tail) - 1) + [3])
            self.assertEqual(node.errors(), (0, 1))

    def test_a_wrong_sum_does_not_hurt_the_next_frame(self):
        node = hearer(tuple(frame(NAME, DATA, wrong=1)))
        node.hear([1, 1, 1] + BEHIND_ERROR)
        self.assertEqual(node.hear(ROW + CONFIRMED)[-1], 1)
        self.assertEqual(node.looked(), LOOKED)

    def test_a_right_sum_does_not_help_the_next_frame(self):
        node = hearer()
        node.hear(CONFIRMED + [1] * 3 + frame(NAME, DATA, wrong=1))
        self.assertEqual(steps(node, [1, 1, 1]), [(IN_TAIL, 1, 0), (IN_TAIL, 1, 0), (IN_TAIL, 1, 3)])

    def test_one_that_was_outdone_judges_the_sum_too(self):
        node = idle(send(2047))
        heard = node.hear(frame(NAME, DATA, wrong=1))
        self.assertEqual(heard.count(4), 1)
        self.assertEqual(steps(node, [1, 1, 1]), [(IN_TAIL, 1, 0), (IN_TAIL, 1, 0), (IN_TAIL, 1, 3)])
        self.assertEqual(node.errors(), (0, 1))


if __name__ == "__main__":
    unittest.main()
