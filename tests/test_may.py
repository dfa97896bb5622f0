"""Promise 5: may."""

import unittest

from lines import (GREATEST, LANDS, PLAN, STATE, ask, begins, check_changes_nothing, check_refused, comes, goes,
                   last_of, may, planned, room)

ANYBODY = comes(0, 0, 1000)
OVERTAKER = [room(0, 1, 9), comes(0, 0, 100), comes(1, 0, 100)]


class May(unittest.TestCase):
    def check_soonest(self, line, number, soonest):
        """1 at its soonest time and behind it, 0 before it."""
        for time in (soonest, soonest + 1, 1000, 1001, GREATEST):
            self.assertEqual(last_of(*line, may(number, time)), [1])
        for time in {0, soonest // 2, soonest - 1} - {soonest, -1}:
            self.assertEqual(last_of(*line, may(number, time)), [0])

    def test_one_alone_may_at_its_first_time(self):
        for first in (0, 1, 2, 500, 999, 1000):
            for shift in range(4):
                self.check_soonest([begins(shift), comes(3, first, 1000)], 0, first)
        self.check_soonest([comes(0, 7, 7)], 0, 7)

    def test_any_order_that_is_allowed_will_do_not_the_plan_alone(self):
        # The plan has 0 at 1, and 2 at 10.
        line = [*OVERTAKER, comes(1, 0, 100)]
        self.assertEqual(last_of(*line, PLAN), planned((1, 0), (0, 1), (2, 10)))
        self.check_soonest(line, 0, 0)
        self.check_soonest(line, 1, 0)
        # It may stand behind 1 alone only where 0 is ahead of both.
        self.check_soonest(line, 2, 9)

    def test_the_shift_says_how_far_ahead_it_may_stand(self):
        for shift in range(4):
            line = [begins(shift), *[ANYBODY] * 8]
            for number in range(8):
                self.check_soonest(line, number, max(0, number - shift))

    def test_no_order_that_makes_another_too_late_will_do(self):
        self.check_soonest([comes(0, 0, 0), ANYBODY], 1, 1)
        self.check_soonest([room(1, 0, 9), comes(0, 0, 8), comes(1, 0, 100)], 1, 1)
        self.check_soonest([room(1, 0, 9), comes(0, 0, 9), comes(1, 0, 100)], 1, 0)

    def test_no_time_before_its_first_one_nor_within_the_room_that_it_wants(self):
        self.check_soonest([comes(0, 20, 30), ANYBODY], 0, 20)
        self.check_soonest([begins(0), *OVERTAKER], 1, 9)
        self.check_soonest([begins(0), room(0, 2, 9), ANYBODY, comes(1, 0, 50), comes(2, 0, 50)], 2, 9)

    def test_behind_those_that_landed(self):
        self.check_soonest([room(0, 1, 6), comes(0, 10, 50), LANDS, comes(1, 0, 50)], 1, 16)
        self.check_soonest([room(0, 2, 9), ANYBODY, comes(1, 0, 50), LANDS, LANDS, comes(2, 0, 50)], 2, 9)
        # 1 landed ahead of 0, so that nobody else may stand ahead of 0.
        self.check_soonest([*OVERTAKER, LANDS, ANYBODY], 2, 2)

    def test_0_for_one_that_no_allowed_order_has(self):
        for line in ([comes(0, 5, 5), comes(0, 5, 5)], [begins(0), comes(0, 9, 9), comes(0, 0, 9)],
                     [comes(0, 5, 5), comes(0, 5, 5), comes(0, 900, 1000)], [ANYBODY, LANDS, comes(0, 0, 0), ANYBODY]):
            numbers = [number for number in range(len(line)) if last_of(*line, goes(number))[0] >= 0]
            self.assertTrue(numbers)
            for number in numbers:
                for time in (0, 5, 9, 900, 1000, 1001, GREATEST):
                    self.assertEqual(last_of(*line, may(number, time)), [0])

    def test_none_of_that_number(self):
        for time in (0, 5, 1000, GREATEST):
            for number in (0, 1, 59, 60, GREATEST):
                self.assertEqual(ask(may(number, time)), [[-2]])
            for number in (2, 3, 60, GREATEST):
                self.assertEqual(last_of(ANYBODY, ANYBODY, may(number, time)), [-2])
            self.assertEqual(last_of(ANYBODY, begins(1), may(0, time)), [-2])
            self.assertEqual(last_of(ANYBODY, goes(0), may(1, time)), [-2])
            self.assertEqual(last_of(comes(0, 5, 5), comes(0, 5, 5), may(2, time)), [-2])

    def test_one_that_does_not_wait(self):
        for time in (0, 5, 1000, GREATEST):
            self.assertEqual(last_of(ANYBODY, goes(0), may(0, time)), [-4])
            self.assertEqual(last_of(ANYBODY, LANDS, may(0, time)), [-4])
            self.assertEqual(last_of(ANYBODY, ANYBODY, LANDS, may(0, time)), [-4])
            self.assertEqual(last_of(ANYBODY, comes(0, 5, 5), comes(0, 5, 5), goes(0), may(0, time)), [-4])

    def test_it_changes_nothing(self):
        line = [begins(2), *OVERTAKER, ANYBODY, PLAN, LANDS, goes(0), comes(0, 3, 3), comes(0, 3, 3), PLAN, goes(4),
                LANDS]
        for asked in (may(0, 0), may(2, 1), may(2, GREATEST), may(GREATEST, 0)):
            check_changes_nothing(self, asked, line)

    def test_a_refusal_leaves_all_as_it_was(self):
        before = [begins(2), *OVERTAKER, ANYBODY, ANYBODY, LANDS, goes(2)]
        behind = [STATE, PLAN, may(0, 1), goes(0), ANYBODY, LANDS, LANDS, STATE]
        for number, reason in ((4, -2), (GREATEST, -2), (1, -4), (2, -4)):
            check_refused(self, before, may(number, 50), reason, behind)
