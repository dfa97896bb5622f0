"""Promise 1: begins and room."""

import unittest

from lines import GREATEST, LANDS, PLAN, ask, begins, check_refused, comes, goes, last_of, planned, room

# Class 1 wants much room behind class 0, so that it is best ahead of all of them.
WIDE = room(0, 1, 9)


def overtaker_behind(many):
    """Behind so many of class 0 comes one of class 1."""
    return [comes(0, 0, 100)] * many + [comes(1, 0, 100)]


def overtaking(many):
    return planned((many, 0), *[(number, number + 1) for number in range(many)])


def queueing(many):
    return planned(*[(number, number) for number in range(many)], (many, many + 8))


class Begins(unittest.TestCase):
    def test_each_shift_answers_0(self):
        for shift in range(4):
            self.assertEqual(ask(begins(shift)), [[0]])

    def test_the_shift_is_how_many_places_one_may_gain(self):
        for shift in range(4):
            for many in range(1, 6):
                expected = overtaking(many) if many <= shift else queueing(many)
                self.assertEqual(last_of(begins(shift), WIDE, *overtaker_behind(many), PLAN), expected)

    def test_at_the_beginning_the_shift_is_1(self):
        self.assertEqual(last_of(WIDE, *overtaker_behind(1), PLAN), overtaking(1))
        self.assertEqual(last_of(WIDE, *overtaker_behind(2), PLAN), queueing(2))

    def test_a_shift_above_3_is_refused(self):
        for shift in (4, 5, 1000, GREATEST):
            self.assertEqual(ask(begins(shift)), [[-1]])

    def test_a_refusal_leaves_all_as_it_was(self):
        before = [begins(2), WIDE, comes(0, 0, 100), comes(0, 0, 100), LANDS, *overtaker_behind(1)]
        for shift in (4, GREATEST):
            check_refused(self, before, begins(shift), -1, [PLAN, LANDS, PLAN, comes(0, 5, 5), room(0, 0, 1)])
            check_refused(self, [], begins(shift), -1, [WIDE, *overtaker_behind(2), PLAN])

    def test_all_is_new(self):
        before = [begins(3), WIDE, room(0, 0, 7), *overtaker_behind(3), LANDS, LANDS, goes(2)]
        behind = [PLAN, LANDS, goes(0), room(2, 3, 4), comes(0, 3, 9), comes(1, 3, 9), comes(0, 3, 9),
                  comes(3, 0, 50), PLAN, LANDS, LANDS, PLAN]
        told = ask(*before, begins(1), *behind)
        self.assertEqual(told[len(before) + 1:], ask(*behind))

    def test_all_is_new_but_the_shift_that_is_told(self):
        before = [begins(3), WIDE, *overtaker_behind(3), LANDS]
        self.assertEqual(last_of(*before, begins(0), WIDE, *overtaker_behind(1), PLAN), queueing(1))
        self.assertEqual(last_of(*before, begins(2), WIDE, *overtaker_behind(2), PLAN), overtaking(2))

    def test_rooms_are_1_anew_where_nobody_had_come(self):
        self.assertEqual(last_of(room(2, 2, 9), begins(1), comes(2, 0, 50), comes(2, 0, 50), PLAN),
                         planned((0, 0), (1, 1)))

    def test_8_that_wait_and_60_that_have_come_count_no_more(self):
        many = [comes(0, 0, 9)] * 8
        self.assertEqual(ask(*many, begins(0), *many)[9:], [[number] for number in range(8)])


class Room(unittest.TestCase):
    def test_rooms_1_and_9_and_each_pair_of_classes(self):
        for ahead in range(4):
            for behind in range(4):
                for much in (1, 2, 9):
                    told = ask(begins(0), room(ahead, behind, much),
                               comes(ahead, 0, 50), comes(behind, 0, 50), PLAN)
                    self.assertEqual(told[1], [0])
                    self.assertEqual(told[4], planned((0, 0), (1, much)))

    def test_a_room_is_of_its_own_two_classes_alone(self):
        for ahead in range(4):
            for behind in range(4):
                expected = 9 if (ahead, behind) == (2, 1) else 1
                self.assertEqual(last_of(begins(0), room(2, 1, 9), comes(ahead, 0, 50), comes(behind, 0, 50), PLAN),
                                 planned((0, 0), (1, expected)))

    def test_where_nothing_is_told_the_room_is_1(self):
        self.assertEqual(last_of(*[comes(kind, 0, 50) for kind in range(4)], PLAN),
                         planned((0, 0), (1, 1), (2, 2), (3, 3)))

    def test_what_is_told_last_holds(self):
        for first, last in ((9, 4), (4, 9), (5, 1)):
            self.assertEqual(last_of(begins(0), room(1, 3, first), room(1, 3, last),
                                     comes(1, 0, 50), comes(3, 0, 50), PLAN), planned((0, 0), (1, last)))

    def test_a_wrong_value_is_refused(self):
        for wrong in (room(4, 0, 5), room(0, 4, 5), room(GREATEST, 0, 5), room(0, GREATEST, 5),
                      room(0, 0, 0), room(0, 0, 10), room(3, 3, 0), room(3, 3, 10), room(0, 0, GREATEST),
                      room(GREATEST, GREATEST, GREATEST)):
            self.assertEqual(ask(wrong), [[-1]])

    def test_it_is_refused_once_somebody_has_come(self):
        for behind in ([], [goes(0)], [LANDS], [comes(1, 2, 3), goes(1)]):
            for much in (1, 9):
                self.assertEqual(last_of(comes(0, 0, 9), *behind, room(0, 0, much)), [-4])

    def test_who_was_refused_has_not_come(self):
        self.assertEqual(last_of(comes(4, 0, 9), comes(0, 0, 1001), room(0, 0, 3)), [0])

    def test_who_came_ahead_of_begins_has_not_come(self):
        self.assertEqual(last_of(comes(0, 0, 9), begins(1), room(0, 0, 3)), [0])

    def test_a_wrong_value_is_told_ahead_of_somebody_that_has_come(self):
        for wrong in (room(4, 0, 5), room(0, 4, 5), room(0, 0, 0), room(0, 0, 10), room(GREATEST, 3, 9)):
            self.assertEqual(last_of(comes(0, 0, 9), wrong), [-1])

    def test_a_refusal_leaves_all_as_it_was(self):
        before = [begins(0), room(0, 0, 3), room(0, 3, 5)]
        behind = [comes(0, 0, 50), comes(0, 0, 50), comes(3, 0, 50), PLAN, LANDS, LANDS, PLAN]
        for wrong in (room(0, 0, 0), room(0, 0, 10), room(0, 4, 9), room(4, 0, 9), room(0, 3, GREATEST)):
            check_refused(self, before, wrong, -1, behind)
        for late in (room(0, 0, 9), room(0, 3, 9), room(3, 0, 9)):
            check_refused(self, before + behind[:3], late, -4, behind[3:])
