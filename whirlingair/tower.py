"""The tower of one airport: what it keeps, and what it answers to each call."""

from whirlingair.aircraft import CLASSES, Aircraft
from whirlingair.orders import best_order

MOST_SHIFT = 3
MOST_ROOM = 9
LATEST_TIME = 1000
MOST_WAITING = 8
MOST_COME = 60

# Why a call is refused.
WRONG_VALUE = 1
NOT_COME = 2
WRONG_MOMENT = 4
FULL = 5
NO_PLAN = 6


def refusal(reason):
    return [-reason]


def is_class(kind):
    return kind < CLASSES


class Tower:
    def __init__(self):
        self.start_anew(1)

    def start_anew(self, shift):
        self.shift = shift
        self.rooms = [[1] * CLASSES for kind in range(CLASSES)]
        self.come_count = 0
        self.landed = []
        self.waiting = []

    def begins(self, shift):
        if shift > MOST_SHIFT:
            return refusal(WRONG_VALUE)
        self.start_anew(shift)
        return [0]

    def room(self, ahead, behind, much):
        if not is_class(ahead) or not is_class(behind):
            return refusal(WRONG_VALUE)
        if much < 1 or much > MOST_ROOM:
            return refusal(WRONG_VALUE)
        if self.come_count > 0:
            return refusal(WRONG_MOMENT)
        self.rooms[ahead][behind] = much
        return [0]

    def comes(self, kind, first, last):
        if not is_class(kind) or last < first or last > LATEST_TIME:
            return refusal(WRONG_VALUE)
        if len(self.waiting) == MOST_WAITING or self.come_count == MOST_COME:
            return refusal(FULL)
        number = self.come_count
        self.waiting.append(Aircraft(number, kind, first, last))
        self.come_count = number + 1
        return [number]

    def waits(self, number):
        return any([craft.number == number for craft in self.waiting])

    def wait_no_more(self, number):
        self.waiting = [craft for craft in self.waiting if craft.number != number]

    def goes(self, number):
        if number >= self.come_count:
            return refusal(NOT_COME)
        if not self.waits(number):
            return refusal(WRONG_MOMENT)
        self.wait_no_more(number)
        return [len(self.waiting)]

    def best(self):
        return best_order(self.waiting, self.landed, self.rooms, self.shift)

    def lands(self):
        if len(self.waiting) == 0:
            return refusal(WRONG_MOMENT)
        best = self.best()
        if best is None:
            return refusal(NO_PLAN)
        landing = best.landings[0]
        self.landed.append(landing)
        self.wait_no_more(landing[0].number)
        return [landing[0].number, 1, landing[1]]

    def plan(self):
        best = self.best()
        if best is None:
            return refusal(NO_PLAN)
        rows = []
        for craft, time in best.landings:
            rows.extend([craft.number, time])
        return [best.end_time(), len(rows)] + rows
