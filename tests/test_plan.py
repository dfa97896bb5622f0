"""Promise 4: plan."""

import unittest

from lines import LANDS, PLAN, ask, begins, comes, goes, last_of, planned, room

ANYBODY = comes(0, 0, 1000)


class Plan(unittest.TestCase):
    def test_of_nobody_it_is_nobody_and_ends_at_0(self):
        nobody = [0, 0]
        self.assertEqual(ask(PLAN), [nobody])
        self.assertEqual(last_of(comes(0, 7, 9), goes(0), PLAN), nobody)
        self.assertEqual(last_of(comes(0, 7, 9), LANDS, PLAN), nobody)
        self.assertEqual(last_of(begins(0), PLAN), nobody)

    def test_when_it_ends_then_each_number_and_its_time(self):
        self.assertEqual(last_of(comes(0, 4, 9), PLAN), [4, 2, 0, 4])
        self.assertEqual(last_of(comes(0, 4, 9), comes(1, 6, 9), PLAN), [6, 4, 0, 4, 1, 6])

    def test_it_is_told_anew_while_nothing_changes(self):
        told = ask(room(0, 1, 9), comes(0, 0, 50), comes(1, 0, 50), PLAN, PLAN, PLAN)
        self.assertEqual(told[3:], [planned((1, 0), (0, 1))] * 3)

    def test_those_that_end_soonest(self):
        line = [room(0, 1, 9), comes(0, 0, 50), comes(1, 0, 50)]
        self.assertEqual(last_of(begins(0), *line, PLAN), planned((0, 0), (1, 9)))
        self.assertEqual(last_of(begins(1), *line, PLAN), planned((1, 0), (0, 1)))

    def test_sooner_goes_before_less_waiting(self):
        # In turn 1 alone would wait, for 3, but it would end at 13.
        self.assertEqual(last_of(room(0, 1, 9), comes(0, 4, 50), comes(1, 10, 50), PLAN), planned((1, 10), (0, 11)))

    def test_of_several_that_end_at_the_same_time_the_one_with_the_least_waiting(self):
        # 2 lands at 10 whether 0 or 1 is first, and 1 behind 0 would wait for 5.
        self.assertEqual(last_of(room(0, 1, 5), comes(0, 0, 50), comes(1, 0, 50), comes(2, 10, 50), PLAN),
                         planned((1, 0), (0, 1), (2, 10)))
        self.assertEqual(last_of(room(1, 0, 5), comes(0, 0, 50), comes(1, 0, 50), comes(2, 10, 50), PLAN),
                         planned((0, 0), (1, 1), (2, 10)))

    def test_of_several_with_the_same_waiting_the_least_number_where_they_differ(self):
        self.assertEqual(last_of(begins(3), *[ANYBODY] * 4, PLAN), planned((0, 0), (1, 1), (2, 2), (3, 3)))
        self.assertEqual(last_of(begins(3), *[ANYBODY] * 8, PLAN), planned(*[(n, n) for n in range(8)]))
        # 0 is the only one to be last: of the others the least are first.
        self.assertEqual(last_of(begins(3), comes(0, 9, 50), ANYBODY, ANYBODY, ANYBODY, PLAN),
                         planned((1, 0), (2, 1), (3, 2), (0, 9)))
        # As soon as 0 is behind 1 or 2, those two may stand either way.
        self.assertEqual(last_of(begins(2), room(0, 1, 9), comes(0, 0, 50), comes(1, 0, 50), comes(1, 0, 50), PLAN),
                         planned((1, 0), (2, 1), (0, 2)))

        # 0 can only be first, and 3 ends late unless it is ahead of 1 and 2: of
        # the two orders that are left it is the one with 1 ahead of 2.
        self.assertEqual(last_of(begins(3), room(1, 2, 9), comes(0, 0, 0), comes(1, 0, 90), comes(1, 0, 90),
                                 comes(2, 0, 90), PLAN), planned((0, 0), (3, 1), (1, 2), (2, 3)))

    def test_no_one_lands_ahead_of_its_first_time(self):
        self.assertEqual(last_of(begins(0), comes(0, 20, 30), comes(0, 0, 30), PLAN), planned((0, 20), (1, 21)))
        self.assertEqual(last_of(begins(0), comes(0, 1000, 1000), PLAN), planned((0, 1000)))

    def test_the_last_time_is_still_allowed_and_the_one_behind_it_is_not(self):
        line = [begins(0), room(0, 1, 9), comes(0, 0, 50)]
        self.assertEqual(last_of(*line, comes(1, 0, 9), PLAN), planned((0, 0), (1, 9)))
        self.assertEqual(last_of(*line, comes(1, 0, 8), PLAN), [-6])
        self.assertEqual(last_of(begins(0), comes(0, 999, 999), comes(0, 0, 1000), PLAN), planned((0, 999), (1, 1000)))
        self.assertEqual(last_of(begins(0), comes(0, 1000, 1000), comes(0, 0, 1000), PLAN), [-6])
        self.assertEqual(last_of(comes(0, 0, 0), comes(0, 0, 0), PLAN), [-6])

    def test_a_last_time_keeps_a_sooner_end_from_being_allowed(self):
        # 1 first would end at 1, but 0 can land at 0 alone.
        self.assertEqual(last_of(room(0, 1, 9), comes(0, 0, 0), comes(1, 0, 50), PLAN), planned((0, 0), (1, 9)))

    def test_it_is_out_of_turn_where_somebody_would_be_too_late_in_turn(self):
        self.assertEqual(last_of(comes(0, 0, 9), comes(0, 0, 0), PLAN), planned((1, 0), (0, 1)))
        self.assertEqual(last_of(begins(0), comes(0, 0, 9), comes(0, 0, 0), PLAN), [-6])

    def test_room_is_kept_behind_all_not_the_next_one_alone(self):
        line = [begins(0), room(0, 2, 9), comes(0, 0, 50), comes(1, 0, 50), comes(3, 0, 50)]
        self.assertEqual(last_of(*line, comes(2, 0, 50), PLAN), planned((0, 0), (1, 1), (2, 2), (3, 9)))
        self.assertEqual(last_of(*line, comes(2, 0, 8), PLAN), [-6])

    def test_one_that_wants_less_room_lands_in_between(self):
        # 1 has to stay at 3 or later behind 0, and 2 fills what it waits for.
        self.assertEqual(last_of(room(0, 1, 3), comes(0, 0, 0), comes(1, 0, 50), comes(2, 0, 50), PLAN),
                         planned((0, 0), (2, 1), (1, 3)))

    def test_the_shift_holds_for_those_that_lose_places_too(self):
        # The two of class 1 may each gain one place, but 0 would lose two.
        line = [room(0, 1, 9), comes(0, 0, 50), comes(1, 0, 50), comes(1, 0, 50)]
        self.assertEqual(last_of(begins(1), *line, PLAN), planned((1, 0), (0, 1), (2, 10)))
        self.assertEqual(last_of(begins(2), *line, PLAN), planned((1, 0), (2, 1), (0, 2)))

    def test_a_plan_changes_nothing(self):
        line = [begins(2), room(0, 1, 4), comes(0, 0, 50), comes(1, 0, 50), LANDS, comes(1, 9, 50), goes(2), LANDS]
        spread = [call for plain in line for call in (plain, PLAN)]
        self.assertEqual(ask(*spread)[::2], ask(*line))

    def test_there_is_a_plan_again_when_the_late_one_goes(self):
        self.assertEqual(ask(comes(0, 5, 5), comes(1, 5, 5), PLAN, goes(0), PLAN)[2:], [[-6], [1], planned((1, 5))])

    def test_there_is_none_where_all_would_land_ahead_of_those_that_landed(self):
        self.assertEqual(last_of(comes(0, 100, 200), LANDS, comes(0, 0, 100), PLAN), [-6])
        self.assertEqual(last_of(comes(0, 100, 200), LANDS, comes(0, 0, 101), PLAN), planned((1, 101)))
