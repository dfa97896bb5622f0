"""Calls as they are handed in, and answers as they are told apart."""

from whirlingair.airport import answers

GREATEST = 4294967295
LANDS = [4]
PLAN = [5]


def begins(shift):
    return [0, shift]


def room(ahead, behind, much):
    return [1, ahead, behind, much]


def comes(kind, first, last):
    return [2, kind, first, last]


def goes(aircraft):
    return [3, aircraft]


def flat(calls):
    return [number for call in calls for number in call]


def told_apart(told):
    parts = []
    at = 0
    while at < len(told):
        end = at + 1 + told[at]
        parts.append(told[at + 1:end])
        at = end
    if at != len(told):
        raise AssertionError(f"the last answer is cut short: {told}")
    return parts


def ask(*calls):
    """What each call answers, a list for each."""
    told = answers(flat(calls))
    if type(told) is not list or any(type(number) is not int for number in told):
        raise AssertionError(f"not a list of whole numbers: {told}")
    parts = told_apart(told)
    if len(parts) != len(calls):
        raise AssertionError(f"{len(calls)} calls, {len(parts)} answers")
    return parts


def last_of(*calls):
    return ask(*calls)[-1]


def planned(*landings):
    """The answer of plan whose landings, (number, time) each, are these."""
    rows = [number for landing in landings for number in landing]
    return [landings[-1][1] if landings else 0, len(rows)] + rows


def check_refused(test, before, refused, reason, behind):
    """The refused call answers its reason, and the answers of those behind it
    are the same as if it had never been made."""
    told = ask(*before, refused, *behind)
    test.assertEqual(told[len(before)], [reason])
    del told[len(before)]
    test.assertEqual(told, ask(*before, *behind))
