"""The call state."""

import unittest

from lines import (GREATEST, LANDS, PLAN, STATE, ask, begins, check_changes_nothing, check_refused, comes, goes,
                   last_of, room, stated)

OVERTAKER = [room(0, 1, 9), comes(0, 3, 100), comes(1, 2, 90)]
WIDE = ((0, 1, 9),)


class State(unittest.TestCase):
    def test_of_a_new_airport(self):
        self.assertEqual(ask(STATE), [[0, 17, 1] + [1] * 16 + [0, 0]])

    def test_behind_begins(self):
        for shift in range(4):
            new = [0, 17, shift] + [1] * 16 + [0, 0]
            self.assertEqual(last_of(begins(shift), STATE), new)
            self.assertEqual(last_of(room(3, 2, 5), *OVERTAKER, LANDS, comes(0, 0, 9), begins(shift), STATE), new)

    def test_behind_rooms(self):
        rooms = [room(ahead, behind, 1 + (5 * ahead + 2 * behind) % 9) for ahead in range(4) for behind in range(4)]
        self.assertEqual(last_of(*rooms, STATE),
                         [0, 17, 1, 1, 3, 5, 7, 6, 8, 1, 3, 2, 4, 6, 8, 7, 9, 2, 4, 0, 0])
        for ahead in range(4):
            for behind in range(4):
                for much in (1, 2, 9):
                    self.assertEqual(last_of(room(ahead, behind, much), STATE), stated(0, 1, [(ahead, behind, much)]))
        self.assertEqual(last_of(room(1, 2, 9), room(1, 2, 4), STATE), stated(0, 1, [(1, 2, 4)]))

    def test_with_some_that_wait(self):
        self.assertEqual(last_of(comes(3, 7, 1000), STATE), [1, 17, 1] + [1] * 16 + [0, 4, 0, 3, 7, 1000])
        self.assertEqual(last_of(comes(2, 40, 60), comes(0, 0, 0), comes(3, 1000, 1000), STATE),
                         stated(3, waiting=[(0, 2, 40, 60), (1, 0, 0, 0), (2, 3, 1000, 1000)]))
        eight = [(number, number % 4, 90 - number, 100 + number) for number in range(8)]
        self.assertEqual(last_of(*[comes(*craft[1:]) for craft in eight], STATE), stated(8, waiting=eight))

    def test_those_that_landed_stand_in_the_order_in_which_they_landed(self):
        told = ask(*OVERTAKER, LANDS, STATE, LANDS, STATE)
        self.assertEqual(told[4], stated(2, 1, WIDE, [(1, 2)], [(0, 0, 3, 100)]))
        self.assertEqual(told[6], stated(2, 1, WIDE, [(1, 2), (0, 3)]))

    def test_a_landing_has_the_time_at_which_it_landed_not_its_first_one(self):
        self.assertEqual(last_of(begins(0), *OVERTAKER, LANDS, LANDS, STATE),
                         stated(2, 0, WIDE, [(0, 3), (1, 12)]))

    def test_those_that_went_away_have_come_but_stand_nowhere(self):
        self.assertEqual(last_of(comes(0, 7, 9), goes(0), STATE), stated(1))
        self.assertEqual(last_of(*OVERTAKER, comes(2, 5, 6), goes(1), STATE),
                         stated(3, 1, WIDE, [], [(0, 0, 3, 100), (2, 2, 5, 6)]))

    def test_some_that_landed_some_that_wait_and_some_that_went_away(self):
        line = [begins(2), *OVERTAKER, LANDS, comes(3, 1, 80), comes(0, 4, 70), goes(2), LANDS, comes(1, 0, 60),
                comes(2, 9, 9)]
        self.assertEqual(last_of(*line, STATE),
                         stated(6, 2, WIDE, [(1, 2), (0, 3)], [(3, 0, 4, 70), (4, 1, 0, 60), (5, 2, 9, 9)]))

    def test_all_60_that_may_come(self):
        calls = [call for number in range(60) for call in (comes(0, number, 1000), LANDS)]
        self.assertEqual(last_of(*calls, STATE), stated(60, landed=[(number, number) for number in range(60)]))

    def test_who_was_refused_stands_nowhere(self):
        refused = [begins(4), room(0, 4, 5), room(0, 0, 0), room(0, 0, 10), comes(4, 0, 9), comes(0, 9, 8),
                   comes(0, 0, 1001), comes(0, GREATEST, GREATEST), goes(0), LANDS, begins(GREATEST)]
        for call in refused:
            check_refused(self, [], call, ask(call)[0][0], [STATE])
        self.assertEqual(last_of(*refused, STATE), stated(0))
        eight = [comes(1, 5, 5)] * 8
        told = ask(*eight, comes(1, 5, 5), room(0, 0, 2), LANDS, PLAN, goes(8), STATE)
        self.assertEqual(told[8:], [[-5], [-4], [-6], [-6], [-2],
                                    stated(8, waiting=[(number, 1, 5, 5) for number in range(8)])])

    def test_it_changes_nothing(self):
        line = [begins(2), *OVERTAKER, PLAN, LANDS, comes(1, 9, 50), goes(0), PLAN, LANDS, begins(3), room(0, 0, 4),
                PLAN]
        check_changes_nothing(self, STATE, line)
        spread = [call for plain in line for call in (plain, STATE)]
        self.assertEqual(ask(*spread)[::2], ask(*line))
