"""Lines of calls, checked against orders that are all tried one by one.

What is checked here is written from the document's words alone: nothing of
the package is used for it.
"""

import itertools
import random
import unittest

from lines import LANDS, PLAN, ask, begins, comes, flat, goes, room


class Airport:
    def __init__(self, shift):
        self.shift = shift
        self.room = {}
        self.craft = []
        self.landed = {}
        self.gone = set()

    def waiting(self):
        return [number for number in range(len(self.craft)) if number not in self.landed and number not in self.gone]

    def rank(self, number):
        return sum(1 for other in range(number) if other not in self.gone)

    def shifted_too_far(self, order):
        return any(abs(len(self.landed) + at - self.rank(number)) > self.shift for at, number in enumerate(order))

    def soonest(self, number, ahead):
        """How soon it may land behind those of a dict of times, and its last time."""
        kind, first, last = self.craft[number]
        behind = [time + self.room.get((self.craft[other][0], kind), 1) for other, time in ahead.items()]
        return max([first] + behind), last

    def timed(self, order):
        """The times of an order in which each lands as soon as it may, or None."""
        if self.shifted_too_far(order):
            return None
        times = dict(self.landed)
        for number in order:
            times[number], last = self.soonest(number, times)
            if times[number] > last:
                return None
        return [times[number] for number in order]

    def timed_all_ways(self, order):
        """All times that the order may have, those that are needlessly late too."""
        if self.shifted_too_far(order):
            return
        spans = [range(self.craft[number][1], self.craft[number][2] + 1) for number in order]
        for chosen in itertools.product(*spans):
            times = dict(self.landed)
            for number, time in zip(order, chosen):
                if time < self.soonest(number, times)[0]:
                    break
                times[number] = time
            else:
                yield list(chosen)

    def plan(self, every_time=False):
        allowed = []
        for order in itertools.permutations(self.waiting()):
            for times in self.timed_all_ways(order) if every_time else [self.timed(order)]:
                if times is not None:
                    waited = sum(time - self.craft[number][1] for number, time in zip(order, times))
                    allowed.append((times[-1] if times else 0, waited, order, times))
        if not allowed:
            return [-6]
        end, waited, order, times = min(allowed)
        return [end, 2 * len(order)] + flat(zip(order, times))

    def lands(self):
        if not self.waiting():
            return [-4]
        plan = self.plan()
        if plan == [-6]:
            return plan
        self.landed[plan[2]] = plan[3]
        return [plan[2], 1, plan[3]]

    def goes(self, number):
        if number >= len(self.craft):
            return [-2]
        if number not in self.waiting():
            return [-4]
        self.gone.add(number)
        return [len(self.waiting())]


class Line:
    """A line of calls that is made while it's known what they are to answer."""

    def __init__(self, source, most, hurry):
        self.source = source
        self.most = most
        self.hurry = hurry
        shift = source.randint(0, 3)
        self.airport = Airport(shift)
        self.calls = [begins(shift)]
        self.expected = [[0]]
        for ahead, behind in itertools.product(range(4), repeat=2):
            if source.random() < 0.7:
                self.airport.room[ahead, behind] = source.randint(1, 9)
                self.tell(room(ahead, behind, self.airport.room[ahead, behind]), [0])

    def tell(self, call, answer):
        self.calls.append(call)
        self.expected.append(answer)

    def one_comes(self):
        first = self.source.randint(0, 12) + max(list(self.airport.landed.values()) + [0])
        craft = (self.source.randint(0, 3), first, first + self.source.randint(0, self.hurry))
        self.tell(comes(*craft), [len(self.airport.craft)])
        self.airport.craft.append(craft)

    def one_lands(self):
        answer = self.airport.lands()
        self.tell(LANDS, answer)
        if answer == [-6]:
            # Else nobody would land any more.
            number = self.source.choice(self.airport.waiting())
            self.tell(goes(number), self.airport.goes(number))

    def grow(self, many, every_time=False):
        for step in range(many):
            chosen = self.source.random()
            if chosen < 0.5 and len(self.airport.waiting()) < self.most:
                self.one_comes()
            elif chosen < 0.7:
                self.one_lands()
            elif chosen < 0.8:
                number = self.source.randint(0, len(self.airport.craft))
                self.tell(goes(number), self.airport.goes(number))
            else:
                self.tell(PLAN, self.airport.plan(every_time))


class AllOrders(unittest.TestCase):
    def check(self, seed, most, hurry, many, every_time=False):
        line = Line(random.Random(seed), most, hurry)
        line.grow(many, every_time)
        self.assertEqual(ask(*line.calls), line.expected, f"{line.calls}")

    def test_lines_in_which_few_wait(self):
        for seed in range(300):
            self.check(seed, 4, 40, 50)

    def test_lines_in_which_many_are_in_a_hurry(self):
        for seed in range(300):
            self.check(seed, 5, 14, 50)

    def test_lines_in_which_six_wait(self):
        for seed in range(40):
            self.check(seed, 6, 60, 40)

    def test_eight_that_wait(self):
        for seed in range(6):
            line = Line(random.Random(seed), 8, 400)
            for number in range(8):
                line.one_comes()
            line.tell(LANDS, line.airport.lands())
            if len(line.airport.waiting()) < 8:
                line.one_comes()
            line.tell(PLAN, line.airport.plan())
            self.assertEqual(ask(*line.calls), line.expected, f"{line.calls}")

    def test_no_other_times_are_better(self):
        for seed in range(150):
            self.check(seed, 3, 14, 20, every_time=True)
