"""Promise 6: many."""

import unittest

from lines import LANDS, MANY, PLAN, ask, begins, check_changes_nothing, comes, goes, last_of, room

ANYBODY = comes(0, 0, 1000)
OVERTAKER = [room(0, 1, 9), comes(0, 0, 100), comes(1, 0, 100)]
# For each shift, of 0 to 8 that wait.
COUNTS = ((1, 1, 1, 1, 1, 1, 1, 1, 1), (1, 1, 2, 3, 5, 8, 13, 21, 34), (1, 1, 2, 6, 14, 31, 73, 172, 400),
          (1, 1, 2, 6, 24, 78, 230, 675, 2069))


class Many(unittest.TestCase):
    def test_of_nobody_it_is_the_one_order_of_nobody(self):
        self.assertEqual(ask(MANY), [[1]])
        self.assertEqual(last_of(ANYBODY, goes(0), MANY), [1])
        self.assertEqual(last_of(ANYBODY, LANDS, MANY), [1])
        self.assertEqual(last_of(*OVERTAKER, LANDS, goes(0), MANY), [1])
        self.assertEqual(last_of(ANYBODY, begins(3), MANY), [1])

    def test_as_many_as_the_shift_allows(self):
        for shift in range(4):
            for waiting in range(9):
                self.assertEqual(last_of(begins(shift), *[ANYBODY] * waiting, MANY), [COUNTS[shift][waiting]])
        self.assertEqual(last_of(*[ANYBODY] * 5, MANY), [COUNTS[1][5]])

    def test_orders_with_the_same_times_count_each(self):
        self.assertEqual(last_of(comes(0, 0, 1), comes(0, 0, 1), MANY), [2])

    def test_no_order_counts_again_with_later_times(self):
        self.assertEqual(last_of(ANYBODY, MANY), [1])
        self.assertEqual(last_of(begins(0), ANYBODY, ANYBODY, MANY), [1])

    def test_where_nothing_is_allowed(self):
        self.assertEqual(last_of(comes(0, 5, 5), comes(0, 5, 5), MANY), [0])
        self.assertEqual(last_of(begins(0), comes(0, 9, 9), comes(0, 0, 9), MANY), [0])
        self.assertEqual(last_of(comes(0, 900, 1000), LANDS, comes(0, 0, 900), MANY), [0])
        self.assertEqual(last_of(begins(3), *[comes(0, 0, 6)] * 8, MANY), [0])

    def test_no_order_that_has_somebody_too_late_counts(self):
        self.assertEqual(last_of(room(0, 1, 9), comes(0, 0, 9), comes(1, 0, 9), MANY), [2])
        self.assertEqual(last_of(room(0, 1, 9), comes(0, 0, 9), comes(1, 0, 8), MANY), [1])
        self.assertEqual(last_of(begins(3), *[comes(0, 0, 1000)] * 3, comes(0, 0, 0), MANY), [6])
        self.assertEqual(last_of(begins(3), *[comes(0, 0, 3)] * 4, MANY), [24])
        self.assertEqual(last_of(begins(3), *[comes(0, 0, 2)] * 3, comes(0, 0, 3), MANY), [6])

    def test_those_that_landed_count_for_places_and_ranks(self):
        # 1 landed ahead of 0, so that 0 has to be the next one.
        self.assertEqual(last_of(*OVERTAKER, LANDS, ANYBODY, ANYBODY, MANY), [2])
        self.assertEqual(last_of(*OVERTAKER, LANDS, LANDS, ANYBODY, ANYBODY, ANYBODY, MANY), [3])
        self.assertEqual(last_of(begins(2), *OVERTAKER, LANDS, ANYBODY, ANYBODY, MANY), [4])
        self.assertEqual(last_of(begins(0), ANYBODY, LANDS, ANYBODY, ANYBODY, MANY), [1])

    def test_those_that_went_away_count_for_nothing(self):
        for gone in range(4):
            self.assertEqual(last_of(*[ANYBODY] * 4, goes(gone), MANY), [3])

    def test_it_changes_nothing(self):
        check_changes_nothing(self, MANY, [begins(2), *OVERTAKER, ANYBODY, PLAN, LANDS, goes(0), comes(0, 3, 3),
                                           comes(0, 3, 3), PLAN, goes(4), LANDS, begins(1), PLAN])
