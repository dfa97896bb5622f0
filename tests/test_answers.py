"""The interface: how calls are handed in, and how answers are given back."""

import unittest

from whirlingair.airport import answers


class Answers(unittest.TestCase):
    def test_each_answer_behind_how_many_numbers_it_has(self):
        calls = [0, 2, 1, 0, 1, 9, 2, 0, 3, 50, 2, 1, 2, 50, 5, 4, 3, 0, 5, 4]
        self.assertEqual(answers(calls), [1, 0, 1, 0, 1, 0, 1, 1, 6, 3, 4, 1, 2, 0, 3, 3, 1, 1, 2, 1, 0, 2, 0, 0, 1, -4])

    def test_each_call_alone(self):
        for calls, told in (([0, 1], [1, 0]), ([0, 4], [1, -1]), ([1, 3, 3, 9], [1, 0]), ([1, 4, 0, 1], [1, -1]),
                            ([2, 3, 0, 1000], [1, 0]), ([2, 3, 1, 0], [1, -1]), ([3, 0], [1, -2]), ([4], [1, -4]),
                            ([5], [2, 0, 0])):
            self.assertEqual(answers(calls), told)

    def test_a_refusal_is_its_number_alone(self):
        late = [2, 0, 5, 5, 2, 0, 5, 5]
        self.assertEqual(answers(late + [4, 5]), [1, 0, 1, 1, 1, -6, 1, -6])

    def test_80_calls(self):
        self.assertEqual(answers([5] * 80), [2, 0, 0] * 80)
        self.assertEqual(answers([2, 0, 0, 9] * 80), [1, 0, 1, 1, 1, 2, 1, 3, 1, 4, 1, 5, 1, 6, 1, 7] + [1, -5] * 72)
        self.assertEqual(answers([2, 1, 1000, 1000, 4] * 1 + [3, 4294967295] * 78), [1, 0, 3, 0, 1, 1000] + [1, -2] * 78)

    def test_the_list_handed_in_is_as_it_was(self):
        calls = [0, 3, 1, 0, 1, 9, 2, 0, 0, 50, 2, 1, 0, 50, 2, 0, 9, 4, 5, 4, 3, 0, 5, 4, 4]
        kept = list(calls)
        answers(calls)
        self.assertEqual(calls, kept)

    def test_nothing_is_kept_from_one_time_to_the_next(self):
        busy = [0, 0, 1, 0, 0, 9, 1, 0, 1, 7] + [2, 0, 0, 90, 2, 1, 0, 90] * 4 + [4, 3, 3, 5]
        fresh = [3, 0, 4, 5, 1, 2, 2, 2, 2, 0, 0, 50, 2, 1, 0, 50, 2, 0, 0, 50, 5, 4]
        told = answers(fresh)
        first = answers(busy)
        self.assertEqual(answers(fresh), told)
        self.assertEqual(answers(busy), first)
        self.assertEqual(told, [1, -2, 1, -4, 2, 0, 0, 1, 0, 1, 0, 1, 1, 1, 2, 8, 2, 6, 0, 0, 1, 1, 2, 2, 3, 0, 1, 0])

    def test_what_is_given_back_is_a_list_of_its_own(self):
        calls = [2, 0, 3, 9, 5]
        first = answers(calls)
        first.append(7)
        self.assertEqual(answers(calls), [1, 0, 4, 3, 2, 0, 3])
