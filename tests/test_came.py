"""Promise 4: came."""

import unittest

from lines import (CAME, LANDS, PLAN, ask, begins, check_changes_nothing, check_refused, comes, goes, last_of, planned,
                   room)

ANYBODY = comes(0, 0, 1000)
# The one of class 1 is best ahead, and lands there where the shift isn't 0.
OVERTAKER = [room(0, 1, 9), comes(0, 0, 100), comes(1, 0, 100)]


class Came(unittest.TestCase):
    def test_of_nobody_it_is_nobody_and_ends_at_0(self):
        nobody = [0, 0]
        self.assertEqual(ask(CAME), [nobody])
        self.assertEqual(last_of(comes(0, 7, 9), goes(0), CAME), nobody)
        self.assertEqual(last_of(comes(0, 7, 9), LANDS, CAME), nobody)
        for shift in range(4):
            self.assertEqual(last_of(begins(shift), CAME), nobody)

    def test_of_nobody_it_is_nobody_though_one_landed_ahead_of_its_turn(self):
        self.assertEqual(last_of(*OVERTAKER, LANDS, goes(0), CAME), [0, 0])
        self.assertEqual(last_of(*OVERTAKER, LANDS, LANDS, CAME), [0, 0])

    def test_when_it_ends_then_each_number_and_its_time(self):
        self.assertEqual(last_of(comes(0, 4, 9), CAME), [4, 2, 0, 4])
        self.assertEqual(last_of(comes(0, 4, 9), comes(1, 3, 9), comes(2, 8, 9), CAME), [8, 6, 0, 4, 1, 5, 2, 8])

    def test_they_land_as_they_came_whatever_the_shift(self):
        for shift in range(4):
            self.assertEqual(last_of(begins(shift), *OVERTAKER, CAME), planned((0, 0), (1, 9)))
            self.assertEqual(last_of(begins(shift), comes(0, 30, 50), comes(0, 0, 50), comes(0, 31, 50), CAME),
                             planned((0, 30), (1, 31), (2, 32)))
        self.assertEqual(last_of(*OVERTAKER, PLAN), planned((1, 0), (0, 1)))

    def test_it_is_the_plan_where_the_shift_is_0(self):
        line = [begins(0), room(0, 1, 9), room(1, 0, 3), room(2, 0, 7), comes(0, 4, 90), comes(1, 0, 90), LANDS,
                comes(0, 30, 90), comes(2, 2, 90), goes(1), comes(0, 0, 90)]
        self.assertEqual(ask(*line, PLAN, CAME)[-2:], [planned((2, 30), (3, 31), (4, 38))] * 2)

    def test_who_went_away_counts_for_no_rank(self):
        for gone in range(3):
            left = [number for number in range(3) if number != gone]
            self.assertEqual(last_of(*[ANYBODY] * 3, goes(gone), CAME), planned((left[0], 0), (left[1], 1)))

    def test_the_last_time_is_still_allowed_and_the_one_behind_it_is_not(self):
        for shift in range(4):
            line = [begins(shift), room(0, 1, 9), comes(0, 0, 50)]
            self.assertEqual(last_of(*line, comes(1, 0, 9), CAME), planned((0, 0), (1, 9)))
            self.assertEqual(last_of(*line, comes(1, 0, 8), CAME), [-6])

    def test_there_is_none_where_somebody_would_be_too_late_though_there_is_a_plan(self):
        for shift in range(1, 4):
            told = ask(begins(shift), comes(0, 0, 9), comes(0, 0, 0), CAME, PLAN)
            self.assertEqual(told[3:], [[-6], planned((1, 0), (0, 1))])
        self.assertEqual(ask(comes(0, 1000, 1000), ANYBODY, CAME, PLAN)[2:], [[-6], planned((1, 0), (0, 1000))])
        self.assertEqual(ask(comes(0, 5, 5), comes(0, 5, 5), CAME, PLAN)[2:], [[-6], [-6]])

    def test_there_is_none_where_one_has_landed_ahead_of_its_turn(self):
        for shift in range(1, 4):
            told = ask(begins(shift), *OVERTAKER, LANDS, CAME, PLAN)
            self.assertEqual(told[4:], [[1, 1, 0], [-6], planned((0, 1))])
            self.assertEqual(last_of(begins(shift), *OVERTAKER, LANDS, ANYBODY, ANYBODY, CAME), [-6])

    def test_there_is_one_again_when_the_overtaken_one_landed_or_went_away(self):
        self.assertEqual(ask(*OVERTAKER, LANDS, ANYBODY, CAME, LANDS, CAME)[5:],
                         [[-6], [0, 1, 1], planned((2, 2))])
        self.assertEqual(ask(*OVERTAKER, LANDS, ANYBODY, CAME, goes(0), CAME)[5:], [[-6], [1], planned((2, 1))])

    def test_it_is_behind_all_that_landed_in_turn(self):
        told = ask(room(0, 2, 9), comes(0, 5, 50), comes(1, 5, 50), LANDS, LANDS, comes(2, 0, 50), comes(1, 0, 50),
                   CAME, PLAN)
        self.assertEqual(told[3:], [[0, 1, 5], [1, 1, 6], [2], [3], planned((2, 14), (3, 15)),
                                    planned((3, 7), (2, 14))])
        self.assertEqual(last_of(comes(0, 100, 200), LANDS, comes(0, 0, 100), CAME), [-6])

    def test_eight_that_wait(self):
        for shift in range(4):
            self.assertEqual(last_of(begins(shift), room(0, 0, 9), *[ANYBODY] * 8, CAME),
                             planned(*[(number, 9 * number) for number in range(8)]))

    def test_it_changes_nothing(self):
        check_changes_nothing(self, CAME, [begins(2), *OVERTAKER, PLAN, LANDS, comes(1, 9, 50), goes(0), comes(0, 0, 9),
                                           comes(0, 0, 9), PLAN, LANDS, begins(3), comes(0, 5, 5), PLAN])

    def test_a_refusal_leaves_all_as_it_was(self):
        behind = [PLAN, room(0, 0, 1), goes(0), comes(0, 0, 9), PLAN, LANDS, LANDS, CAME]
        check_refused(self, [begins(2), *OVERTAKER, LANDS, ANYBODY], CAME, -6, behind)
        check_refused(self, [comes(0, 5, 5), comes(0, 5, 5)], CAME, -6, behind)
