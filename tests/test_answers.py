"""The interface: how calls are handed in, and how answers are given back."""

import unittest

from whirlingair.airport import answers


class Answers(unittest.TestCase):
    def test_each_answer_behind_how_many_numbers_it_has(self):
        calls = [0, 2, 1, 0, 1, 9, 2, 0, 3, 50, 2, 1, 2, 50, 5, 4, 3, 0, 5, 4]
        self.assertEqual(answers(calls), [1, 0, 1, 0, 1, 0, 1, 1, 6, 3, 4, 1, 2, 0, 3, 3, 1, 1, 2, 1, 0, 2, 0, 0, 1, -4])

    def test_each_call_alone(self):
        for calls, told in (([0, 1], [1, 0]), ([0, 4], [1, -1]), ([1, 3, 3, 9], [1, 0]), ([1, 4, 0, 1], [1, -1]),
                            ([2, 3, 0, 1000], [1, 0]), ([2, 3, 1, 0], [1, -1]), ([3, 0], [1, -2]), ([4], [1, -4]),
                            ([5], [2, 0, 0]), ([6], [2, 0, 0]), ([7, 0, 0], [1, -2]), ([8, 0], [1, -2]),
                            ([9], [1, 1]), ([10], [21, 0, 17] + [1] * 17 + [0, 0])):
            self.assertEqual(answers(calls), told)

    def test_each_answer_of_one_that_lands_behind_another(self):
        line = [0, 0, 1, 0, 1, 9, 2, 0, 3, 50, 2, 1, 2, 60]
        told = [1, 0, 1, 0, 1, 0, 1, 1]
        rooms = [1, 9] + [1] * 14
        for asked, answer in (([6], [6, 12, 4, 0, 3, 1, 12]), ([7, 1, 11], [1, 0]), ([7, 1, 12], [1, 1]),
                              ([8, 0], [2, 3, 0]), ([8, 1], [3, 12, 1, 0]), ([9], [1, 1]),
                              ([10], [29, 2, 17, 0] + rooms + [0, 8, 0, 0, 3, 50, 1, 1, 2, 60]),
                              ([4, 10], [3, 0, 1, 3, 27, 2, 17, 0] + rooms + [2, 0, 3, 4, 1, 1, 2, 60])):
            self.assertEqual(answers(line + asked), told + answer)
            self.assertEqual(answers(line + asked + [9]), told + answer + [1, 1])

    def test_a_refusal_is_its_number_alone(self):
        late = [2, 0, 5, 5, 2, 0, 5, 5]
        self.assertEqual(answers(late + [4, 5, 6, 8, 0]), [1, 0, 1, 1, 1, -6, 1, -6, 1, -6, 1, -6])
        self.assertEqual(answers(late + [7, 2, 5, 8, 2, 3, 0, 7, 0, 5, 8, 0]),
                         [1, 0, 1, 1, 1, -2, 1, -2, 1, 1, 1, -4, 1, -4])

    def test_80_calls(self):
        self.assertEqual(answers([5] * 80), [2, 0, 0] * 80)
        self.assertEqual(answers([2, 0, 0, 9] * 80), [1, 0, 1, 1, 1, 2, 1, 3, 1, 4, 1, 5, 1, 6, 1, 7] + [1, -5] * 72)
        self.assertEqual(answers([10] * 80), ([21, 0, 17] + [1] * 17 + [0, 0]) * 80)
        self.assertEqual(answers([7, 4294967295, 4294967295] * 40 + [8, 4294967295] * 40), [1, -2] * 80)
        self.assertEqual(answers([2, 1, 1000, 1000, 4] * 1 + [3, 4294967295] * 78), [1, 0, 3, 0, 1, 1000] + [1, -2] * 78)

    def test_the_list_handed_in_is_as_it_was(self):
        calls = [0, 3, 1, 0, 1, 9, 2, 0, 0, 50, 2, 1, 0, 50, 2, 0, 9, 4, 5, 6, 7, 0, 9, 8, 0, 9, 10, 4, 3, 0, 5, 4, 4,
                 10, 9, 8, 0, 7, 0, 0, 6]
        kept = list(calls)
        answers(calls)
        self.assertEqual(calls, kept)

    def test_nothing_is_kept_from_one_time_to_the_next(self):
        busy = [0, 0, 1, 0, 0, 9, 1, 0, 1, 7] + [2, 0, 0, 90, 2, 1, 0, 90] * 4 + [4, 3, 3, 5, 6, 7, 5, 40, 8, 5, 9, 10]
        fresh = [10, 3, 0, 4, 5, 1, 2, 2, 2, 2, 0, 0, 50, 2, 1, 0, 50, 2, 0, 0, 50, 5, 9, 6, 7, 2, 1, 8, 2, 4, 10]
        told = answers(fresh)
        first = answers(busy)
        self.assertEqual(answers(fresh), told)
        self.assertEqual(answers(busy), first)
        rooms = [1] * 10 + [2] + [1] * 5
        self.assertEqual(told, [21, 0, 17] + [1] * 17 + [0, 0] + [
            1, -2, 1, -4, 2, 0, 0, 1, 0, 1, 0, 1, 1, 1, 2, 8, 2, 6, 0, 0, 1, 1, 2, 2, 1, 3, 8, 2, 6, 0, 0, 1, 1, 2, 2,
            1, 1, 3, 2, 1, 1, 3, 0, 1, 0, 31, 3, 17, 1] + rooms + [2, 0, 0, 8, 1, 1, 0, 50, 2, 0, 0, 50])

    def test_what_is_given_back_is_a_list_of_its_own(self):
        calls = [2, 0, 3, 9, 5]
        first = answers(calls)
        first.append(7)
        self.assertEqual(answers(calls), [1, 0, 4, 3, 2, 0, 3])
