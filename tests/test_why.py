"""Promise 5: why."""

import unittest

from lines import (GREATEST, LANDS, PLAN, STATE, ask, begins, check_changes_nothing, check_refused, comes, goes,
                   last_of, planned, room, why)

ANYBODY = comes(0, 0, 1000)
OVERTAKER = [room(0, 1, 9), comes(0, 0, 100), comes(1, 0, 100)]


def at_first(time):
    return [time, 0]


def behind(time, ahead):
    return [time, 1, ahead]


class Why(unittest.TestCase):
    def check(self, line, plan, reasons):
        """The plan of a line, and the answer of why for each number of a dict."""
        self.assertEqual(last_of(*line, PLAN), plan)
        for number, reason in reasons.items():
            self.assertEqual(last_of(*line, why(number)), reason, f"why({number})")

    def test_one_that_lands_at_its_first_time(self):
        for first in (0, 1, 999, 1000):
            self.assertEqual(last_of(comes(2, first, 1000), why(0)), at_first(first))
        self.check([comes(0, 4, 9), comes(0, 6, 9)], planned((0, 4), (1, 6)), {0: at_first(4), 1: at_first(6)})

    def test_nobody_is_told_where_its_first_time_is_just_behind_the_room(self):
        self.check([begins(0), room(0, 1, 9), comes(0, 0, 50), comes(1, 9, 50)], planned((0, 0), (1, 9)),
                   {0: at_first(0), 1: at_first(9)})
        self.check([room(0, 1, 9), ANYBODY, LANDS, comes(1, 9, 50)], planned((1, 9)), {1: at_first(9)})
        self.check([room(0, 1, 9), ANYBODY, LANDS, comes(1, 8, 50)], planned((1, 9)), {1: behind(9, 0)})

    def test_one_that_waits_for_one_that_landed(self):
        self.check([room(0, 1, 6), comes(0, 10, 50), LANDS, comes(1, 0, 50), comes(1, 0, 50)],
                   planned((1, 16), (2, 17)), {1: behind(16, 0), 2: behind(17, 1)})

    def test_one_that_waits_for_one_in_the_plan(self):
        self.check([begins(0), *OVERTAKER], planned((0, 0), (1, 9)), {0: at_first(0), 1: behind(9, 0)})
        self.check(OVERTAKER, planned((1, 0), (0, 1)), {0: behind(1, 1), 1: at_first(0)})

    def test_one_that_waits_for_one_farther_ahead(self):
        line = [begins(0), room(0, 2, 9), ANYBODY, comes(1, 0, 50), comes(3, 0, 50)]
        plan = ((0, 0), (1, 1), (2, 2), (3, 9))
        self.check(line + [comes(2, 0, 50)], planned(*plan),
                   {0: at_first(0), 1: behind(1, 0), 2: behind(2, 1), 3: behind(9, 0)})
        for many in range(1, 4):
            self.check(line + [LANDS] * many + [comes(2, 0, 50)], planned(*plan[many:]), {3: behind(9, 0)})

    def test_one_that_waits_for_one_that_landed_long_before_the_others(self):
        # Eight land at 1 to 8; the last of them is just so for class 2 as well.
        line = [room(0, 2, 9), ANYBODY, LANDS] + [comes(1, 0, 50), LANDS] * 8
        self.check(line + [comes(2, 0, 50)], planned((9, 9)), {9: behind(9, 0)})
        self.check(line + [comes(3, 0, 50)], planned((9, 9)), {9: behind(9, 8)})

    def test_of_several_in_the_plan_that_are_just_so_it_is_the_first_in_the_plan(self):
        # 0 at 0 wants 3, and 1 at 1 wants 2, and 2 at 2 wants 1.
        wanted = [room(0, 3, 3), room(1, 3, 2)]
        self.check([begins(0), *wanted, *[comes(kind, 0, 50) for kind in range(4)]],
                   planned((0, 0), (1, 1), (2, 2), (3, 3)), {3: behind(3, 0)})
        # Now the one that came last of the three is the first in the plan.
        self.check([begins(3), *wanted, comes(2, 2, 2), comes(1, 1, 1), comes(0, 0, 0), comes(3, 0, 50)],
                   planned((2, 0), (1, 1), (0, 2), (3, 3)), {3: behind(3, 2)})

    def test_of_several_that_landed_it_is_the_one_that_landed_first(self):
        wanted = [room(0, 3, 3), room(1, 3, 2)]
        self.check([*wanted, comes(0, 0, 0), comes(1, 1, 1), comes(2, 2, 2), LANDS, LANDS, LANDS, comes(3, 0, 50)],
                   planned((3, 3)), {3: behind(3, 0)})
        self.check([begins(3), *wanted, comes(2, 2, 2), comes(1, 1, 1), comes(0, 0, 0), LANDS, LANDS, LANDS,
                    comes(3, 0, 50)], planned((3, 3)), {3: behind(3, 2)})

    def test_those_that_landed_are_ahead_of_those_in_the_plan(self):
        # 1 lands at 0, ahead of 0; then 0 at 1 and 1 at 0 are just so for 2.
        line = [room(1, 3, 2), comes(0, 1, 50), comes(1, 0, 50)]
        self.check(line + [LANDS, comes(3, 0, 50)], planned((0, 1), (2, 2)), {2: behind(2, 1)})
        self.check(line + [LANDS, LANDS, comes(3, 0, 50)], planned((2, 2)), {2: behind(2, 1)})
        self.check(line + [comes(3, 0, 50)], planned((1, 0), (0, 1), (2, 2)), {2: behind(2, 1)})

    def test_one_whose_time_and_room_are_not_just_so_is_passed_over(self):
        # 0 wants 2 of the 3, and 1 at 1 wants the whole 2.
        self.check([begins(0), room(0, 3, 2), room(1, 3, 2), comes(0, 0, 50), comes(1, 1, 50), comes(3, 0, 50)],
                   planned((0, 0), (1, 1), (2, 3)), {2: behind(3, 1)})

    def test_the_room_is_the_one_behind_the_other_for_its_own_class(self):
        self.check([begins(0), room(0, 1, 4), room(1, 0, 7), room(0, 0, 2), room(1, 1, 3), comes(0, 5, 50),
                    comes(1, 5, 50), comes(1, 5, 50), comes(0, 5, 50), comes(0, 5, 50)],
                   planned((0, 5), (1, 9), (2, 12), (3, 19), (4, 21)),
                   {0: at_first(5), 1: behind(9, 0), 2: behind(12, 1), 3: behind(19, 2), 4: behind(21, 3)})

    def test_none_of_that_number(self):
        for number in (0, 1, 59, 60, GREATEST):
            self.assertEqual(ask(why(number)), [[-2]])
        for number in (2, 3, 60, GREATEST):
            self.assertEqual(last_of(ANYBODY, ANYBODY, why(number)), [-2])
        self.assertEqual(last_of(ANYBODY, begins(1), why(0)), [-2])
        self.assertEqual(last_of(ANYBODY, goes(0), why(1)), [-2])

    def test_one_that_does_not_wait(self):
        self.assertEqual(last_of(ANYBODY, goes(0), why(0)), [-4])
        self.assertEqual(last_of(ANYBODY, LANDS, why(0)), [-4])
        self.assertEqual(last_of(ANYBODY, ANYBODY, LANDS, why(0)), [-4])

    def test_there_is_no_plan(self):
        for line in ([comes(0, 5, 5), comes(0, 5, 5)], [begins(0), comes(0, 9, 9), comes(0, 0, 9)]):
            for number in range(2):
                self.assertEqual(last_of(*line, why(number)), [-6])
        self.assertEqual(last_of(comes(0, 5, 5), comes(0, 5, 5), comes(0, 900, 900), why(2)), [-6])
        self.assertEqual(last_of(comes(0, 900, 1000), LANDS, comes(0, 0, 900), why(1)), [-6])

    def test_none_of_that_number_and_one_that_does_not_wait_are_told_ahead_of_no_plan(self):
        no_plan = [ANYBODY, LANDS, ANYBODY, comes(0, 5, 5), comes(0, 5, 5), goes(1)]
        for number, reason in ((0, -4), (1, -4), (2, -6), (3, -6), (4, -2), (GREATEST, -2)):
            self.assertEqual(last_of(*no_plan, why(number)), [reason])

    def test_it_changes_nothing(self):
        line = [begins(2), *OVERTAKER, ANYBODY, PLAN, LANDS, goes(0), comes(0, 3, 3), comes(0, 3, 3), PLAN, goes(4),
                LANDS]
        for asked in (why(0), why(2), why(3), why(GREATEST)):
            check_changes_nothing(self, asked, line)

    def test_a_refusal_leaves_all_as_it_was(self):
        before = [begins(2), *OVERTAKER, ANYBODY, ANYBODY, LANDS, goes(2)]
        then = [STATE, PLAN, why(0), goes(0), ANYBODY, LANDS, LANDS, STATE]
        for number, reason in ((4, -2), (GREATEST, -2), (1, -4), (2, -4)):
            check_refused(self, before, why(number), reason, then)
        check_refused(self, [comes(0, 5, 5), comes(0, 5, 5)], why(0), -6, then)
