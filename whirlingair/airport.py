"""A list of calls on one airport, and what they answer."""

from whirlingair.tower import Tower

# How many numbers each call has behind its own.
GIVEN = (1, 3, 3, 1, 0, 0, 0, 2, 1, 0, 0)


def answer(tower, call, given):
    if call == 0:
        return tower.begins(given[0])
    if call == 1:
        return tower.room(given[0], given[1], given[2])
    if call == 2:
        return tower.comes(given[0], given[1], given[2])
    if call == 3:
        return tower.goes(given[0])
    if call == 4:
        return tower.lands()
    if call == 5:
        return tower.plan()
    if call == 6:
        return tower.came()
    if call == 7:
        return tower.may(given[0], given[1])
    if call == 8:
        return tower.why(given[0])
    if call == 9:
        return tower.many()
    return tower.state()


def answers(calls):
    tower = Tower()
    told = []
    at = 0
    while at < len(calls):
        call = calls[at]
        behind = at + 1 + GIVEN[call]
        numbers = answer(tower, call, calls[at + 1:behind])
        told.append(len(numbers))
        told.extend(numbers)
        at = behind
    return told
