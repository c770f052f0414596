"""Several nodes on one wire, which has a 0 where anybody puts a 0."""

import unittest

from helper import BETWEEN, CONFIRMED, IDLE, OFF, WAITING, frame
from lowestwins.wire import Node


def wired(*frames):
    """Nodes that have just begun, each with a frame that it wants to send, or with None."""
    nodes = []
    for wanted in frames:
        node = Node()
        if wanted is not None:
            name, data = wanted
            assert node.send(name, len(data), data) == 0
        nodes.append(node)
    return nodes


def run(nodes, times, noise=None, hurt=None):
    """Let so many bits go by; what each node answered to each.

    In the noise's bit the wire is the other way round for those that are hurt, or for all.
    """
    told = [[] for node in nodes]
    for time in range(times):
        bit = min(node.out() for node in nodes)
        for place, node in enumerate(nodes):
            is_hurt = time == noise and (hurt is None or place in hurt)
            told[place].append(node.hear(1 - bit if is_hurt else bit))
    return told


def errors(node):
    return node.counted(0), node.counted(1)


def length(name, data):
    return len(frame(name, data)) + len(CONFIRMED)


class Several(unittest.TestCase):
    def test_the_lowest_name_goes_first_and_all_get_through(self):
        wanted = [(1000, [1]), (3, [2, 2]), (5, []), (2047, [255] * 3)]
        nodes = wired(*wanted, None)
        run(nodes, 11)
        left = sorted(wanted)
        while left:
            name, data = left.pop(0)
            winner = wanted.index((name, data))
            told = run(nodes, length(name, data))
            for place, node in enumerate(nodes):
                if place == winner:
                    self.assertEqual(told[place][-1], 2)
                    self.assertEqual(set(told[place][:-1]), {0})
                else:
                    self.assertEqual(told[place][-1], 1)
                    self.assertEqual(node.look(), [len(data) + 3, name >> 8, name & 255, len(data)] + data)
                    loses = place < len(wanted) and wanted[place] in left
                    self.assertEqual(told[place].count(4), 1 if loses else 0)
                self.assertEqual((node.counted(2), errors(node)), (WAITING, (0, 0)))
            run(nodes, len(BETWEEN))
        for node in nodes:
            self.assertEqual((node.counted(2), node.out(), node.wanted), (IDLE, 1, None))

    def test_alone_on_the_wire_nobody_confirms(self):
        [node] = wired((5, [6]))
        told = run([node], 11 + length(5, [6]))[0]
        self.assertEqual(told.index(3), 11 + len(frame(5, [6])) + 1)
        self.assertEqual(errors(node), (8, 0))
        self.assertIsNotNone(node.wanted)

    def test_alone_on_the_wire_it_is_off_in_the_end(self):
        [node] = wired((2000, []))
        # Up to bit 1 of the tail, six bits of telling, and eleven ones.
        cycle = len(frame(2000)) + 2 + 6 + 11
        told = run([node], 11 + cycle * 31 + len(frame(2000)) + 2)[0]
        self.assertEqual((told.count(3), told.count(5), told[-1]), (31, 1, 5))
        self.assertEqual(node.counted(2), OFF)

    def test_two_may_send_the_very_same_frame(self):
        nodes = wired((5, [6]), (5, [6]), None)
        run(nodes, 11)
        told = run(nodes, length(5, [6]))
        self.assertEqual([answered[-1] for answered in told], [2, 2, 1])

    def test_the_same_name_with_other_bytes_is_an_error_for_all(self):
        nodes = wired((5, [0]), (5, [255]), None)
        run(nodes, 11)
        told = run(nodes, length(5, [0]))
        self.assertEqual(errors(nodes[1]), (8, 0))
        self.assertEqual(errors(nodes[0]), (8, 0))
        self.assertEqual(errors(nodes[2]), (0, 1))
        for answered in told:
            self.assertNotIn(4, answered)
            self.assertIn(3, answered)

    def test_whatever_bit_is_hurt_all_forget_the_frame_and_it_is_sent_anew(self):
        name, data = 77, [0, 15]
        for place in range(1, length(name, data)):
            if place == len(frame(name, data)) + 1:
                # Nobody but the sender minds the confirming bit.
                continue
            nodes = wired((name, data), None, None)
            run(nodes, 11)
            told = run(nodes, 250, noise=place)
            for answered in told:
                self.assertEqual(answered.count(3), 1)
            self.assertEqual([answered.count(2) for answered in told], [1, 0, 0])
            self.assertEqual([answered.count(1) for answered in told], [0, 1, 1])
            self.assert_all_got_it(nodes)

    def test_a_bit_that_one_of_them_alone_hears_wrong(self):
        name, data = 77, [0, 15]
        for hurt in ((0,), (1,), (2,)):
            # In bit 9 of the tail it would come too late: for the others the frame is through before it is told.
            for place in range(1, len(frame(name, data)) + 9):
                nodes = wired((name, data), None, None)
                run(nodes, 11)
                told = run(nodes, 300, noise=place, hurt=hurt)
                self.assertEqual([answered.count(2) for answered in told], [1, 0, 0], place)
                self.assertEqual([answered.count(1) for answered in told], [0, 1, 1], place)
                self.assert_all_got_it(nodes)

    def assert_all_got_it(self, nodes):
        for node in nodes:
            self.assertEqual((node.counted(2), node.out(), node.wanted), (IDLE, 1, None))
        for node in nodes[1:]:
            self.assertEqual(node.look(), [5, 0, 77, 2, 0, 15])


if __name__ == "__main__":
    unittest.main()
