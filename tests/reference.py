"""An airport that tries all orders one by one.

It is written from the document's words alone: nothing of the package is used
for it.
"""

import itertools

from lines import planned, stated


class Airport:
    def __init__(self, every_time=False):
        # Whether an order is tried with needlessly late times, too.
        self.every_time = every_time
        self.begin_anew(1)

    def begin_anew(self, shift):
        self.shift = shift
        self.rooms = {}
        self.craft = []
        self.landed = {}
        self.gone = set()

    def waiting(self):
        return [number for number in range(len(self.craft)) if number not in self.landed and number not in self.gone]

    def rank(self, number):
        return sum(1 for other in range(number) if other not in self.gone)

    def shifted_too_far(self, order, shift):
        return any(abs(len(self.landed) + at - self.rank(number)) > shift for at, number in enumerate(order))

    def just_behind(self, number, other, time):
        """The time of the other one and the room behind it, together."""
        return time + self.rooms.get((self.craft[other][0], self.craft[number][0]), 1)

    def soonest(self, number, ahead):
        """How soon it may land behind those of a dict of times."""
        behind = [self.just_behind(number, other, time) for other, time in ahead.items()]
        return max([self.craft[number][1]] + behind)

    def spans(self, order):
        """For each of an order, the times that are tried, and None for as soon as it may."""
        if self.every_time:
            return [range(self.craft[number][1], self.craft[number][2] + 1) for number in order]
        return [[None]] * len(order)

    def timed(self, order, chosen):
        """The times of an order, or None where they aren't allowed."""
        times = dict(self.landed)
        for number, time in zip(order, chosen):
            soonest = self.soonest(number, times)
            times[number] = soonest if time is None else time
            if times[number] < soonest or times[number] > self.craft[number][2]:
                return None
        return [times[number] for number in order]

    def allowed(self, shift):
        """Each allowed order, with its times."""
        for order in itertools.permutations(self.waiting()):
            if not self.shifted_too_far(order, shift):
                for chosen in itertools.product(*self.spans(order)):
                    times = self.timed(order, chosen)
                    if times is not None:
                        yield order, times

    def best(self, shift):
        """The landings of the plan, (number, time) each, or None."""
        ranked = []
        for order, times in self.allowed(shift):
            waited = sum(time - self.craft[number][1] for number, time in zip(order, times))
            ranked.append((times[-1] if times else 0, waited, order, times))
        return list(zip(*min(ranked)[2:])) if ranked else None

    def begins(self, shift):
        if shift > 3:
            return [-1]
        self.begin_anew(shift)
        return [0]

    def room(self, ahead, behind, much):
        if ahead not in range(4) or behind not in range(4) or much not in range(1, 10):
            return [-1]
        if self.craft:
            return [-4]
        self.rooms[ahead, behind] = much
        return [0]

    def comes(self, kind, first, last):
        if kind not in range(4) or last < first or last > 1000:
            return [-1]
        if len(self.waiting()) == 8 or len(self.craft) == 60:
            return [-5]
        self.craft.append((kind, first, last))
        return [len(self.craft) - 1]

    def not_waiting(self, number):
        return [-4] if number < len(self.craft) else [-2]

    def goes(self, number):
        if number not in self.waiting():
            return self.not_waiting(number)
        self.gone.add(number)
        return [len(self.waiting())]

    def lands(self):
        if not self.waiting():
            return [-4]
        best = self.best(self.shift)
        if best is None:
            return [-6]
        number, time = best[0]
        self.landed[number] = time
        return [number, 1, time]

    def plan(self):
        best = self.best(self.shift)
        return [-6] if best is None else planned(*best)

    def came(self):
        best = self.best(0)
        return [-6] if best is None else planned(*sorted(best))

    def may(self, number, time):
        if number not in self.waiting():
            return self.not_waiting(number)
        soon = any(times[order.index(number)] <= time for order, times in self.allowed(self.shift))
        return [1 if soon else 0]

    def why(self, number):
        if number not in self.waiting():
            return self.not_waiting(number)
        best = self.best(self.shift)
        if best is None:
            return [-6]
        time = dict(best)[number]
        if time == self.craft[number][1]:
            return [time, 0]
        for other, other_time in list(self.landed.items()) + best:
            if time == self.just_behind(number, other, other_time):
                return [time, 1, other]

    def many(self):
        return [len({order for order, times in self.allowed(self.shift)})]

    def state(self):
        rooms = [(ahead, behind, much) for (ahead, behind), much in self.rooms.items()]
        waiting = [(number, *self.craft[number]) for number in self.waiting()]
        return stated(len(self.craft), self.shift, rooms, self.landed.items(), waiting)
