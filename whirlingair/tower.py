"""The tower of one airport: what it keeps, and what it answers to each call."""

from whirlingair.aircraft import CLASSES, Aircraft
from whirlingair.orders import allowed_orders, best_order, waits_for

MOST_SHIFT = 3
MOST_ROOM = 9
LATEST_TIME = 1000
MOST_WAITING = 8
MOST_COME = 60

# Why a call is refused.
WRONG_VALUE = 1
NOT_COME = 2
WRONG_MOMENT = 4
FULL = 5
NO_PLAN = 6


def refusal(reason):
    return [-reason]


def is_class(kind):
    return kind < CLASSES


def listed(numbers):
    return [len(numbers)] + numbers


def landing_numbers(landings):
    numbers = []
    for craft, time in landings:
        numbers.extend([craft.number, time])
    return numbers


def told_order(order):
    if order is None:
        return refusal(NO_PLAN)
    return [order.end_time()] + listed(landing_numbers(order.landings))


class Tower:
    def __init__(self):
        self.start_anew(1)

    def start_anew(self, shift):
        self.shift = shift
        self.rooms = [[1] * CLASSES for kind in range(CLASSES)]
        self.come_count = 0
        self.landed = []
        self.waiting = []

    def begins(self, shift):
        if shift > MOST_SHIFT:
            return refusal(WRONG_VALUE)
        self.start_anew(shift)
        return [0]

    def room(self, ahead, behind, much):
        if not is_class(ahead) or not is_class(behind):
            return refusal(WRONG_VALUE)
        if much < 1 or much > MOST_ROOM:
            return refusal(WRONG_VALUE)
        if self.come_count > 0:
            return refusal(WRONG_MOMENT)
        self.rooms[ahead][behind] = much
        return [0]

    def comes(self, kind, first, last):
        if not is_class(kind) or last < first or last > LATEST_TIME:
            return refusal(WRONG_VALUE)
        if len(self.waiting) == MOST_WAITING or self.come_count == MOST_COME:
            return refusal(FULL)
        number = self.come_count
        self.waiting.append(Aircraft(number, kind, first, last))
        self.come_count = number + 1
        return [number]

    # None where none of that number waits.
    def find_waiting(self, number):
        for craft in self.waiting:
            if craft.number == number:
                return craft
        return None

    def why_not_waiting(self, number):
        if number >= self.come_count:
            return refusal(NOT_COME)
        return refusal(WRONG_MOMENT)

    def wait_no_more(self, number):
        self.waiting = [craft for craft in self.waiting if craft.number != number]

    def goes(self, number):
        if self.find_waiting(number) is None:
            return self.why_not_waiting(number)
        self.wait_no_more(number)
        return [len(self.waiting)]

    def best(self, shift):
        return best_order(self.waiting, self.landed, self.rooms, shift)

    def allowed(self):
        return allowed_orders(self.waiting, self.landed, self.rooms, self.shift)

    def lands(self):
        if len(self.waiting) == 0:
            return refusal(WRONG_MOMENT)
        best = self.best(self.shift)
        if best is None:
            return refusal(NO_PLAN)
        landing = best.landings[0]
        self.landed.append(landing)
        self.wait_no_more(landing[0].number)
        return [landing[0].number] + listed([landing[1]])

    def plan(self):
        return told_order(self.best(self.shift))

    # Where nobody is shifted, an order is the one in which they came.
    def came(self):
        return told_order(self.best(0))

    def may(self, number, time):
        craft = self.find_waiting(number)
        if craft is None:
            return self.why_not_waiting(number)
        soon = any([order.time_of(craft) <= time for order in self.allowed()])
        return [1 if soon else 0]

    def why(self, number):
        craft = self.find_waiting(number)
        if craft is None:
            return self.why_not_waiting(number)
        best = self.best(self.shift)
        if best is None:
            return refusal(NO_PLAN)
        time = best.time_of(craft)
        ahead = waits_for(craft, time, self.landed + best.landings, self.rooms)
        return [time] + listed([] if ahead is None else [ahead.number])

    def many(self):
        return [len(self.allowed())]

    def state(self):
        settings = [self.shift]
        for wanted in self.rooms:
            settings.extend(wanted)
        waiting = []
        for craft in self.waiting:
            waiting.extend([craft.number, craft.kind, craft.first, craft.last])
        return [self.come_count] + listed(settings) + listed(landing_numbers(self.landed)) + listed(waiting)
