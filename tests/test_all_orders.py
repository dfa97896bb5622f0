"""Lines of calls, checked against an airport that tries all orders one by one."""

import itertools
import random
import unittest

from lines import GREATEST, ask
from reference import Airport

NAMES = ("begins", "room", "comes", "goes", "lands", "plan", "came", "may", "why", "many", "state")


class Line:
    """A line of calls that is made while it's known what they are to answer."""

    def __init__(self, seed, every_time=False):
        self.source = random.Random(seed)
        self.airport = Airport(every_time)
        self.calls = []
        self.expected = []

    def tell(self, name, *given):
        self.calls.append([NAMES.index(name), *given])
        self.expected.append(getattr(self.airport, name)(*given))
        return self.expected[-1]

    def begin(self):
        self.tell("begins", self.source.randint(0, 3))
        for ahead, behind in itertools.product(range(4), repeat=2):
            if self.source.random() < 0.7:
                self.tell("room", ahead, behind, self.source.randint(1, 9))

    def one_comes(self, hurry):
        first = self.source.randint(0, 12) + max(list(self.airport.landed.values()) + [0])
        self.tell("comes", self.source.randint(0, 3), first, first + self.source.randint(0, hurry))

    def one_lands(self):
        if self.tell("lands") == [-6]:
            # Else nobody would land any more.
            self.tell("goes", self.source.choice(self.airport.waiting()))

    def some_number(self):
        if self.airport.waiting() and self.source.random() < 0.8:
            return self.source.choice(self.airport.waiting())
        return self.source.randint(0, len(self.airport.craft))

    def some_time(self, number):
        """A time near to the one at which this number may land."""
        craft = self.airport.craft
        return self.source.randint(0, 20) + (craft[number][1] if number < len(craft) else 0)

    def one_is_asked(self, names):
        name = self.source.choice(names)
        number = self.some_number()
        given = {"may": (number, self.some_time(number)), "why": (number,)}.get(name, ())
        self.tell(name, *given)

    def grow(self, many, most, hurry):
        """So many steps, in which at most so many wait at once."""
        for step in range(many):
            chosen = self.source.random()
            if chosen < 0.4 and len(self.airport.waiting()) < most:
                self.one_comes(hurry)
            elif chosen < 0.55:
                self.one_lands()
            elif chosen < 0.62:
                self.tell("goes", self.source.randint(0, len(self.airport.craft)))
            else:
                self.one_is_asked(NAMES[5:])

    def any_number(self, edges):
        return self.source.choice((*edges, self.source.choice((GREATEST, GREATEST - 1, 2 ** 31, 1001))))

    def one_is_perhaps_refused(self):
        """A call whose numbers are at the edges, or wrong."""
        name = self.source.choice(("begins", "room", "room", "room", "comes", "comes", "comes", "goes", "may", "why"))
        kinds, times = range(5), (0, 1, 2, 3, 999, 1000)
        numbers = range(len(self.airport.craft) + 2)
        edges = {"begins": [range(5)], "room": [kinds, kinds, range(11)], "comes": [kinds, times, times],
                 "goes": [numbers], "may": [numbers, times], "why": [numbers]}[name]
        self.tell(name, *[self.any_number(some) for some in edges])

    def mix(self, most):
        """80 calls of all kinds, in which not many more than so many wait at once."""
        while len(self.calls) < 79:
            chosen = self.source.random()
            if len(self.airport.waiting()) > most:
                self.one_lands()
            elif chosen < 0.3:
                self.one_is_perhaps_refused()
            elif chosen < 0.5:
                self.one_comes(self.source.choice((3, 12, 60)))
            else:
                self.one_is_asked(NAMES[4:])
        while len(self.calls) < 80:
            self.tell("state")


class AllOrders(unittest.TestCase):
    def check_answers(self, line):
        self.assertEqual(ask(*line.calls), line.expected, f"{line.calls}")

    def check(self, seed, most, hurry, many, every_time=False):
        line = Line(seed, every_time)
        line.begin()
        line.grow(many, most, hurry)
        self.check_answers(line)

    def test_lines_in_which_few_wait(self):
        for seed in range(300):
            self.check(seed, 4, 40, 50)

    def test_lines_in_which_many_are_in_a_hurry(self):
        for seed in range(300):
            self.check(seed, 5, 14, 50)

    def test_lines_in_which_six_wait(self):
        for seed in range(40):
            self.check(seed, 6, 60, 40)

    def test_eight_that_wait(self):
        for seed in range(6):
            line = Line(seed)
            line.begin()
            for number in range(8):
                line.one_comes(400)
            line.tell("lands")
            if len(line.airport.waiting()) < 8:
                line.one_comes(400)
            for name in ("plan", "came", "many", "state"):
                line.tell(name)
            for name in ("may", "why"):
                line.one_is_asked([name])
            self.check_answers(line)

    def test_no_other_times_are_better(self):
        for seed in range(150):
            self.check(seed, 3, 14, 20, every_time=True)

    def test_80_calls_of_all_kinds_mixed(self):
        seen = {name: set() for name in NAMES}
        for seed in range(150):
            line = Line(seed)
            if seed % 2 == 0:
                line.begin()
            line.mix(5)
            self.assertEqual(len(line.calls), 80)
            self.check_answers(line)
            for call, answer in zip(line.calls, line.expected):
                seen[NAMES[call[0]]].add(min(answer[0], 0))
        # Each way to answer is met, but the -5 of comes.
        self.assertEqual({name: sorted(kinds) for name, kinds in seen.items()},
                         {"begins": [-1, 0], "room": [-4, -1, 0], "comes": [-1, 0], "goes": [-4, -2, 0],
                          "lands": [-6, -4, 0], "plan": [-6, 0], "came": [-6, 0], "may": [-4, -2, 0],
                          "why": [-6, -4, -2, 0], "many": [0], "state": [0]})
