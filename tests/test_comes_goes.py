"""Promise 2: comes and goes."""

import unittest

from lines import GREATEST, LANDS, PLAN, ask, begins, check_refused, comes, goes, last_of, planned, room

ANYBODY = comes(0, 0, 1000)
WRONG_COMERS = (comes(4, 0, 9), comes(GREATEST, 0, 9), comes(0, 5, 4), comes(0, 1000, 999), comes(0, 1, 0),
                comes(0, 0, 1001), comes(3, 1000, 1001), comes(0, 1001, 1001), comes(0, 1001, 1000),
                comes(0, GREATEST, GREATEST), comes(0, 0, GREATEST), comes(0, GREATEST, 0),
                comes(GREATEST, GREATEST, GREATEST))


class Comes(unittest.TestCase):
    def test_it_answers_its_number(self):
        self.assertEqual(ask(*[comes(number % 4, number, 40 + number) for number in range(8)]),
                         [[number] for number in range(8)])

    def test_the_edges_of_classes_and_times(self):
        for kind in (0, 3):
            for first, last in ((0, 0), (0, 1000), (1000, 1000), (999, 1000), (7, 7)):
                self.assertEqual(ask(comes(kind, first, last), PLAN), [[0], planned((0, first))])

    def test_its_class_and_times_are_kept_apart_from_those_of_others(self):
        told = last_of(begins(0), room(1, 2, 5), room(2, 3, 4), comes(1, 10, 20), comes(2, 11, 16),
                       comes(3, 0, 19), comes(0, 300, 300), PLAN)
        self.assertEqual(told, planned((0, 10), (1, 15), (2, 19), (3, 300)))

    def test_a_wrong_value_is_refused(self):
        for wrong in WRONG_COMERS:
            self.assertEqual(ask(wrong), [[-1]])

    def test_the_ninth_that_would_wait_is_refused(self):
        self.assertEqual(ask(*[ANYBODY] * 9)[7:], [[7], [-5]])

    def test_those_that_landed_or_went_away_do_not_wait(self):
        for leave in (LANDS, goes(0), goes(7), goes(3)):
            told = ask(*[ANYBODY] * 8, leave, ANYBODY, ANYBODY)
            self.assertEqual(told[9:], [[8], [-5]])

    def test_numbers_are_never_given_again(self):
        self.assertEqual(ask(ANYBODY, goes(0), ANYBODY, goes(1), ANYBODY, LANDS, ANYBODY)[::2],
                         [[0], [1], [2], [3]])

    # Within 80 calls nobody comes as the 61st, so these lists are longer.
    def test_the_61st_that_would_come_is_refused(self):
        for leave in (lambda number: goes(number), lambda number: LANDS):
            calls = []
            for number in range(60):
                calls.extend([ANYBODY, leave(number)])
            told = ask(*calls, ANYBODY, comes(0, 0, 1001), begins(1), ANYBODY)
            self.assertEqual(told[0:120:2], [[number] for number in range(60)])
            self.assertEqual(told[120:], [[-5], [-1], [0], [0]])

    def test_60_that_have_come_count_whether_they_wait_or_not(self):
        calls = [call for number in range(52) for call in (ANYBODY, goes(number))] + [ANYBODY] * 8
        told = ask(*calls, goes(59), ANYBODY, goes(52), PLAN)
        self.assertEqual(told[len(calls) - 1], [59])
        self.assertEqual(told[len(calls):], [[7], [-5], [6], planned(*[(53 + n, n) for n in range(6)])])

    def test_a_wrong_value_is_told_ahead_of_8_that_wait(self):
        for wrong in WRONG_COMERS:
            self.assertEqual(last_of(*[ANYBODY] * 8, wrong), [-1])

    def test_a_refusal_leaves_all_as_it_was(self):
        before = [begins(2), room(0, 1, 6), comes(0, 0, 90), comes(1, 0, 90), LANDS, comes(1, 4, 80)]
        behind = [PLAN, comes(1, 3, 70), PLAN, LANDS, goes(4), goes(0), PLAN]
        for wrong in WRONG_COMERS:
            check_refused(self, before, wrong, -1, behind)
            check_refused(self, [], wrong, -1, [goes(0), LANDS, PLAN, ANYBODY, PLAN])
        check_refused(self, [ANYBODY] * 8, ANYBODY, -5, [goes(8), PLAN, goes(0), ANYBODY, LANDS, PLAN])

    def test_one_that_would_be_too_late_comes_all_the_same(self):
        self.assertEqual(ask(comes(0, 5, 5), comes(0, 5, 5), PLAN), [[0], [1], [-6]])


class Goes(unittest.TestCase):
    def test_it_answers_how_many_wait_then(self):
        self.assertEqual(ask(ANYBODY, ANYBODY, ANYBODY, goes(1), goes(0), goes(2))[3:], [[2], [1], [0]])

    def test_those_that_landed_do_not_wait(self):
        self.assertEqual(last_of(ANYBODY, ANYBODY, ANYBODY, LANDS, goes(2)), [1])

    def test_all_8_go(self):
        self.assertEqual(ask(*[ANYBODY] * 8, *[goes(number) for number in range(8)])[8:],
                         [[number] for number in range(7, -1, -1)])

    def test_it_is_in_no_plan_then(self):
        self.assertEqual(last_of(begins(0), room(0, 1, 9), comes(1, 0, 50), comes(0, 0, 50), comes(1, 0, 50),
                                 goes(1), PLAN), planned((0, 0), (2, 1)))

    def test_who_went_away_counts_for_no_rank(self):
        # With its number for a rank, 2 might not stand first where the shift is 1.
        self.assertEqual(last_of(room(0, 1, 9), comes(0, 0, 50), comes(0, 0, 50), comes(1, 0, 50), goes(0), PLAN),
                         planned((2, 0), (1, 1)))

    def test_none_of_that_number(self):
        for number in (0, 1, 8, 59, 60, GREATEST):
            self.assertEqual(ask(goes(number)), [[-2]])
        for number in (2, 3, 60, GREATEST):
            self.assertEqual(last_of(ANYBODY, ANYBODY, goes(number)), [-2])
        self.assertEqual(last_of(ANYBODY, begins(1), goes(0)), [-2])
        self.assertEqual(last_of(ANYBODY, goes(0), goes(1)), [-2])

    def test_one_that_does_not_wait(self):
        self.assertEqual(last_of(ANYBODY, goes(0), goes(0)), [-4])
        self.assertEqual(last_of(ANYBODY, ANYBODY, goes(1), goes(1)), [-4])
        self.assertEqual(last_of(ANYBODY, LANDS, goes(0)), [-4])
        self.assertEqual(last_of(ANYBODY, ANYBODY, LANDS, goes(0)), [-4])

    def test_a_refusal_leaves_all_as_it_was(self):
        before = [begins(1), ANYBODY, ANYBODY, comes(2, 7, 70), ANYBODY, LANDS, goes(1)]
        behind = [PLAN, goes(2), PLAN, ANYBODY, LANDS, LANDS, LANDS]
        for number, reason in ((4, -2), (GREATEST, -2), (0, -4), (1, -4)):
            check_refused(self, before, goes(number), reason, behind)
