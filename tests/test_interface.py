"""The interface: lowestwins.node.answers(calls)."""

import unittest

from lowestwins.node import UnknownCall, answers

CALLS = [0, 2, 1, 5, 2, 2, 0, 255, 2, 1, 6, 0, 0, 1, -1, 0, 0, 1, 6, 9, 0, 0, 1, 2047, 1, 1, 9]
GIVEN = [1, 0, 1, 1, 1, 0, 1, 1, 1, -1, 1, -2, 1, -2, 1, 0, 1, 0]


class Interface(unittest.TestCase):
    def test_each_answer_stands_in_order_with_its_count(self):
        self.assertEqual(answers(list(CALLS)), GIVEN)

    def test_what_is_handed_in_stays(self):
        calls = list(CALLS)
        answers(calls)
        self.assertEqual(calls, CALLS)

    def test_nothing_is_changed_for_a_while_either(self):
        class Guarded(list):
            def refuse(self, *given):
                raise AssertionError("the list handed in was changed")

            __setitem__ = __delitem__ = __iadd__ = __imul__ = refuse
            append = extend = insert = pop = remove = clear = reverse = sort = refuse

        self.assertEqual(answers(Guarded(CALLS)), GIVEN)

    def test_asking_twice_answers_the_same(self):
        self.assertEqual(answers(list(CALLS)), answers(list(CALLS)))

    def test_nothing_wanted_is_kept_from_one_time_to_the_next(self):
        wanting = [0, 1, 5, 0, 0]
        self.assertEqual(answers(wanting), [1, 0, 1, 0])
        self.assertEqual(answers(wanting), [1, 0, 1, 0])

    def test_what_is_given_back_is_the_askers_own(self):
        first = answers([0, 2])
        first.clear()
        self.assertEqual(answers([0, 2]), [1, 0, 1, 1])

    def test_a_list_of_plain_whole_numbers_is_given_back(self):
        given = answers(list(CALLS))
        self.assertIs(type(given), list)
        for number in given:
            self.assertIs(type(number), int)

    def test_as_many_calls_as_there_may_be(self):
        # Told as a truth, since a difference of long lists takes unittest minutes to write out.
        self.assertTrue(answers([0] + [2] * 13999) == [1, 0] + [1, 1] * 13999)

    def test_as_long_a_list_as_there_may_be(self):
        pair = [0, 1, 2047, 8, 8] + [255] * 8
        times = 30000 // len(pair)
        self.assertTrue(answers(pair * times) == [1, 0, 1, 0] * times)

    def test_a_number_that_no_call_has(self):
        for number in (-1, 6, 100):
            with self.assertRaises(UnknownCall):
                answers([0, number])


if __name__ == "__main__":
    unittest.main()
