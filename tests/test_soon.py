"""Eight that wait with a shift of 3, of which there are the most orders."""

import time
import unittest

from lines import CAME, LANDS, MANY, PLAN, STATE, ask, begins, comes, goes, may, why

# A tenth of this is common: it leaves room for a slow machine, and none for
# trying the 40320 orders of eight one by one.
SECONDS_AN_ANSWER = 0.25
ANYBODY = comes(0, 0, 1000)
EIGHT = [begins(3), *[ANYBODY] * 8]


class Soon(unittest.TestCase):
    def check(self, calls, many):
        start = time.perf_counter()
        told = ask(*EIGHT, *calls)
        taken = time.perf_counter() - start
        self.assertTrue(all(answer[0] >= 0 for answer in told))
        self.assertLess(taken, SECONDS_AN_ANSWER * many, f"{calls[:2]} .. {len(calls)} calls")

    def test_each_call_is_answered_soon(self):
        for asked in (PLAN, CAME, may(7, 3), may(0, 1000), may(4, 4294967295), why(7), why(0), MANY, STATE):
            self.check([asked] * 10, 10)

    def test_soon_however_many_landed_or_went_away(self):
        self.check([call for number in range(10) for call in (LANDS, comes(number % 2, 0, 1000))], 10)
        self.check([call for number in range(10) for call in (goes(number), ANYBODY)], 10)

    def test_80_calls_are_answered_soon(self):
        mixed = [PLAN, CAME, may(7, 3), why(7), MANY, STATE] * 11 + [LANDS] * 5
        self.assertEqual(len(EIGHT) + len(mixed), 80)
        self.check(mixed, 71)
