"""The orders that are allowed, and the best of them."""

from whirlingair.aircraft import CLASSES


class Order:
    def __init__(self, landings, left, soonest):
        # Pairs: an aircraft, and the time at which it lands.
        self.landings = landings
        # Those that wait and have no place in this order yet.
        self.left = left
        # For each class, how soon one of it may land behind all that landed
        # or stand in this order. The last one alone wouldn't tell: one
        # farther ahead may want more room.
        self.soonest = soonest

    def time_for(self, craft):
        return max(craft.first, self.soonest[craft.kind])

    def followed_by(self, craft, rooms):
        time = self.time_for(craft)
        landings = self.landings + [(craft, time)]
        left = [other for other in self.left if other.number != craft.number]
        return Order(landings, left, soonest_behind(self.soonest, craft, time, rooms))

    def end_time(self):
        if len(self.landings) == 0:
            return 0
        return self.landings[-1][1]

    def waiting_time(self):
        return sum([time - craft.first for craft, time in self.landings])

    def numbers(self):
        return [craft.number for craft, time in self.landings]

    def time_of(self, craft):
        return self.landings[self.numbers().index(craft.number)][1]


def soonest_behind(soonest, craft, time, rooms):
    wanted = rooms[craft.kind]
    return [max(soonest[kind], time + wanted[kind]) for kind in range(CLASSES)]


def empty_order(waiting, landed, rooms):
    soonest = [0] * CLASSES
    for craft, time in landed:
        soonest = soonest_behind(soonest, craft, time, rooms)
    return Order([], waiting, soonest)


# Those that went away aren't handed in, so that they don't count.
def rank_of(craft, waiting, landed):
    earlier = [other for other in waiting if other.number < craft.number]
    earlier_landed = [other for other, time in landed if other.number < craft.number]
    return len(earlier) + len(earlier_landed)


def ranks_by_number(waiting, landed):
    ranks = {}
    for craft in waiting:
        ranks[craft.number] = rank_of(craft, waiting, landed)
    return ranks


# The order with one more behind it, for each one that may land next.
def grown_orders(order, near, rooms):
    grown = []
    for craft in order.left:
        if near[craft.number] and order.time_for(craft) <= craft.last:
            grown.append(order.followed_by(craft, rooms))
    return grown


# Everybody lands as soon as may be: to land later only makes the times behind
# it later, so it allows no other order and is never better.
def allowed_orders(waiting, landed, rooms, shift):
    ranks = ranks_by_number(waiting, landed)
    orders = [empty_order(waiting, landed, rooms)]
    for ahead in range(len(waiting)):
        place = len(landed) + ahead
        near = {}
        for craft in waiting:
            near[craft.number] = abs(place - ranks[craft.number]) <= shift
        longer = []
        for order in orders:
            longer.extend(grown_orders(order, near, rooms))
        orders = longer
    return orders


def drawbacks(order):
    return (order.end_time(), order.waiting_time(), order.numbers())


# None where no order is allowed.
def best_order(waiting, landed, rooms, shift):
    orders = allowed_orders(waiting, landed, rooms, shift)
    return min(orders, key=drawbacks, default=None)


# None where it lands at its first time. Landings behind its own needn't be left
# out: they are later than its time even without the room.
def waits_for(craft, time, landings, rooms):
    if time == craft.first:
        return None
    for other, other_time in landings:
        if other_time + rooms[other.kind][craft.kind] == time:
            return other
    return None
