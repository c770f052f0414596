"""The interface: lowestwins.node.answers(calls)."""

import time
import unittest

from helper import BEGIN, BETWEEN, CONFIRMED, HIGHEST, LOOK, LOWEST, OUT, TO_IDLE, count, frame, hear, hearing, send
from helper import split
from lowestwins.node import UnknownCall, answers

MOST_CALLS = 14000
MOST_NUMBERS = 30000

CALLS = [0, 2, 1, 5, 2, 2, 0, 255, 2, 1, 6, 0, 0, 1, -1, 0, 0, 1, 6, 9, 0, 0, 1, 2047, 1, 1, 9]
GIVEN = [1, 0, 1, 1, 1, 0, 1, 1, 1, -1, 1, -2, 1, -2, 1, 0, 1, 0]

# A frame is heard and looked at, another one is sent and hurt, and wrong numbers stand among them.
CALLS += [0, 4, 5, 2, 5, 3, 3, 2, 5, -1]
GIVEN += [1, 0, 1, -1, 1, 4, 1, -2, 1, -2, 1, -2]
for bit in TO_IDLE + frame(0x123, [4, 5]) + CONFIRMED:
    CALLS += [3, bit]
    GIVEN += [1, 0]
GIVEN[-1] = 1
CALLS += [4, 5, 2, 3, 1, 3, 1, 3, 1, 5, 2, 2, 1, 0, 0, 0, 2, 3, 0, 2, 3, 1, 5, 0, 5, 1, 5, 2, 2, 4]
GIVEN += [6, 5, 1, 0x23, 2, 4, 5, 1, 4, 1, 0, 1, 0, 1, 0, 1, 0, 1, 1, 1, 0, 1, 0, 1, 0, 1, 0, 1, 3]
GIVEN += [1, 8, 1, 0, 1, 3, 1, 0, 6, 5, 1, 0x23, 2, 4, 5]


class Interface(unittest.TestCase):
    def test_each_answer_stands_in_order_with_its_count(self):
        self.assertEqual(answers(list(CALLS)), GIVEN)

    def test_what_is_handed_in_stays(self):
        calls = list(CALLS)
        answers(calls)
        self.assertEqual(calls, CALLS)

    def test_nothing_is_changed_for_a_while_either(self):
        class Guarded(list):
            def refuse(self, *given):
                raise AssertionError("the list handed in was changed")

            __setitem__ = __delitem__ = __iadd__ = __imul__ = refuse
            append = extend = insert = pop = remove = clear = reverse = sort = refuse

        self.assertEqual(answers(Guarded(CALLS)), GIVEN)

    def test_asking_twice_answers_the_same(self):
        self.assertEqual(answers(list(CALLS)), answers(list(CALLS)))

    def test_nothing_wanted_is_kept_from_one_time_to_the_next(self):
        wanting = [0, 1, 5, 0, 0]
        self.assertEqual(answers(wanting), [1, 0, 1, 0])
        self.assertEqual(answers(wanting), [1, 0, 1, 0])

    def test_what_is_given_back_is_the_askers_own(self):
        first = answers([0, 2])
        first.clear()
        self.assertEqual(answers([0, 2]), [1, 0, 1, 1])

    def test_a_list_of_plain_whole_numbers_is_given_back(self):
        given = answers(list(CALLS))
        self.assertIs(type(given), list)
        for number in given:
            self.assertIs(type(number), int)

    def test_a_call_as_long_as_any_at_the_lists_end(self):
        for last, answer in ((BEGIN, 0), (OUT, 1), (LOOK, -1), (hear(1), 0), (count(2), 4), (send(5, [6]), 0)):
            self.assertEqual(answers(BEGIN + last), [1, 0, 1, answer])

    def test_numbers_that_look_like_calls(self):
        calls = BEGIN
        for number in range(6):
            calls = calls + hear(number) + count(number)
        self.assertEqual(answers(calls), [1, 0, 1, 0, 1, 0, 1, 0, 1, 0] + [1, -2, 1, 4] + [1, -2] * 6)

    def test_the_ends_of_the_numbers_ranges(self):
        for number in (LOWEST, HIGHEST):
            self.assertEqual(answers(BEGIN + hear(number) + count(number) + send(number)), [1, 0, 1, -2, 1, -2, 1, -2])
        self.assertEqual(answers(BEGIN + [1, HIGHEST, 4294967295, 0]), [1, 0, 1, -2])

    def test_a_number_that_no_call_has(self):
        for number in (-1, 6, 100):
            with self.assertRaises(UnknownCall):
                answers([0, number])


class Limits(unittest.TestCase):
    """Long lists are told as a truth, since a difference of them takes unittest minutes to write out."""

    def setUp(self):
        self.started = time.process_time()

    def tearDown(self):
        self.assertLess(time.process_time() - self.started, 5)

    def assert_answers(self, calls, expected):
        self.assertLessEqual(len(calls), MOST_NUMBERS)
        before = list(calls)
        first = answers(calls)
        self.assertTrue(first == expected)
        self.assertTrue(calls == before)
        self.assertTrue(answers(calls) == first)

    def test_as_many_calls_as_there_may_be(self):
        self.assert_answers([0] + [2] * (MOST_CALLS - 1), [1, 0] + [1, 1] * (MOST_CALLS - 1))

    def test_as_long_a_list_as_there_may_be(self):
        pair = [0, 1, 2047, 8, 8] + [255] * 8
        times = MOST_NUMBERS // len(pair)
        self.assert_answers(pair * times, [1, 0, 1, 0] * times)

    def test_frames_heard_without_end(self):
        row = frame(2047, [255, 0] * 4) + CONFIRMED + BETWEEN
        story = (TO_IDLE + row * MOST_CALLS)[:MOST_CALLS - 1]
        told = ([0] * 11 + ([0] * (len(row) - 4) + [1, 0, 0, 0]) * MOST_CALLS)[:MOST_CALLS - 1]
        self.assert_answers(sum(hearing(story), [0]), [1, 0] + [number for answer in told for number in (1, answer)])

    def test_frames_sent_without_end(self):
        data = [0, 255] * 4
        row = frame(0, data) + CONFIRMED
        once = send(0, data) + sum(hearing(row + BETWEEN), [])
        times = (MOST_NUMBERS - 23) // len(once)
        answered = [1, 0] + [1, 0] * (len(row) - 1) + [1, 2] + [1, 0] * 3
        self.assert_answers(sum(hearing(TO_IDLE), [0]) + once * times, [1, 0] * 12 + answered * times)

    def test_looking_without_end(self):
        data = [1, 2, 3, 4, 5, 6, 7, 8]
        calls = sum(hearing(TO_IDLE + frame(0x700, data) + CONFIRMED), [0])
        told = len(calls) // 2 + 1
        calls += LOOK * (MOST_CALLS - told)
        given = answers(calls)
        self.assertEqual(split(given)[:told], [[0]] * (told - 1) + [[1]])
        self.assert_answers(calls, [1, 0] * (told - 1) + [1, 1] + ([12, 11, 7, 0, 8] + data) * (MOST_CALLS - told))


if __name__ == "__main__":
    unittest.main()
