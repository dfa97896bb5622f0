"""Promise 3: lands."""

import unittest

from lines import LANDS, PLAN, ask, begins, check_refused, comes, goes, last_of, planned, room

ANYBODY = comes(0, 0, 1000)


class Lands(unittest.TestCase):
    def test_the_first_of_the_plan_lands_at_its_time(self):
        told = ask(room(0, 1, 9), comes(0, 3, 50), comes(1, 2, 50), PLAN, LANDS, PLAN, LANDS, PLAN)
        self.assertEqual(told[3:], [planned((1, 2), (0, 3)), [1, 1, 2], planned((0, 3)), [0, 1, 3], planned()])

    def test_the_edges_of_times(self):
        self.assertEqual(ask(comes(0, 0, 0), comes(0, 1000, 1000), LANDS, LANDS)[2:], [[0, 1, 0], [1, 1, 1000]])

    def test_nobody_waits(self):
        self.assertEqual(ask(LANDS), [[-4]])
        self.assertEqual(last_of(ANYBODY, LANDS, LANDS), [-4])
        self.assertEqual(last_of(ANYBODY, goes(0), LANDS), [-4])
        self.assertEqual(last_of(ANYBODY, begins(3), LANDS), [-4])

    def test_there_is_no_plan(self):
        self.assertEqual(last_of(comes(0, 5, 5), comes(1, 5, 5), LANDS), [-6])
        self.assertEqual(last_of(comes(0, 900, 1000), LANDS, comes(1, 0, 900), LANDS), [-6])

    def test_a_refusal_leaves_all_as_it_was(self):
        behind = [PLAN, goes(1), PLAN, comes(0, 0, 9), PLAN, LANDS, LANDS]
        check_refused(self, [comes(0, 5, 5), comes(0, 5, 5)], LANDS, -6, behind)
        check_refused(self, [ANYBODY, LANDS], LANDS, -4, [PLAN, comes(0, 0, 9), PLAN, goes(1), room(0, 0, 1)])
        check_refused(self, [], LANDS, -4, [PLAN, goes(0), room(0, 0, 5), ANYBODY, ANYBODY, PLAN])

    def test_once_nobody_is_too_late_any_more_they_land(self):
        self.assertEqual(ask(comes(0, 5, 5), comes(0, 5, 5), LANDS, goes(0), LANDS)[2:], [[-6], [1], [1, 1, 5]])

    def test_room_is_kept_behind_those_that_landed(self):
        told = ask(begins(0), room(2, 1, 6), comes(2, 10, 50), LANDS, comes(1, 0, 50), comes(2, 0, 50), LANDS, LANDS)
        self.assertEqual(told[6:], [[1, 1, 16], [2, 1, 17]])

    def test_room_is_kept_behind_all_that_landed_not_the_last_alone(self):
        told = ask(begins(0), room(0, 2, 9), comes(0, 0, 50), comes(1, 0, 50), comes(3, 0, 50), LANDS, LANDS, LANDS,
                   comes(2, 0, 50), PLAN, LANDS)
        self.assertEqual(told[5:], [[0, 1, 0], [1, 1, 1], [2, 1, 2], [3], planned((3, 9)), [3, 1, 9]])

    def test_those_that_landed_count_for_places_and_ranks(self):
        # 1 lands ahead of 0. Then 0, which has lost one place, may lose none
        # more, though the order would end sooner with 2 ahead of it.
        told = ask(room(0, 1, 9), comes(0, 0, 50), comes(1, 0, 50), LANDS, comes(1, 0, 50), PLAN, LANDS, LANDS)
        self.assertEqual(told[3:], [[1, 1, 0], [2], planned((0, 1), (2, 10)), [0, 1, 1], [2, 1, 10]])

    def test_those_behind_the_landed_may_still_change_places(self):
        told = ask(room(0, 1, 9), comes(2, 0, 50), LANDS, comes(0, 0, 50), comes(1, 0, 50), PLAN, LANDS)
        self.assertEqual(told[5:], [planned((2, 1), (1, 2)), [2, 1, 1]])

    def test_nobody_is_overtaken_by_more_than_the_shift_however_many_come(self):
        # A new one of class 1 would always end sooner ahead of 0.
        for shift in range(4):
            calls = [begins(shift), room(0, 1, 9), comes(0, 0, 900)]
            for number in range(6):
                calls.extend([comes(1, 0, 900), LANDS])
            landed = [part[0] for part in ask(*calls) if len(part) == 3]
            self.assertEqual(landed.index(0), shift)

    def test_all_land_as_the_plan_told_when_nobody_comes_or_goes(self):
        line = [begins(3), room(0, 1, 4), room(0, 2, 7), room(1, 2, 5), room(2, 2, 3)]
        line += [comes(kind, first, 60) for kind, first in ((0, 2), (1, 0), (2, 3), (0, 4), (2, 1), (1, 9), (0, 5))]
        rows = last_of(*line, PLAN)[2:]
        landings = ask(*line, *[LANDS] * 7)[len(line):]
        self.assertEqual([[number, time] for number, one, time in landings],
                         [rows[at:at + 2] for at in range(0, 14, 2)])
