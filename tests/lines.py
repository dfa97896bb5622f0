"""Calls as they are handed in, and answers as they are told apart."""

from whirlingair.airport import answers

GREATEST = 4294967295
LANDS = [4]
PLAN = [5]
CAME = [6]
MANY = [9]
STATE = [10]


def begins(shift):
    return [0, shift]


def room(ahead, behind, much):
    return [1, ahead, behind, much]


def comes(kind, first, last):
    return [2, kind, first, last]


def goes(aircraft):
    return [3, aircraft]


def may(aircraft, time):
    return [7, aircraft, time]


def why(aircraft):
    return [8, aircraft]


def flat(calls):
    return [number for call in calls for number in call]


def told_apart(told):
    parts = []
    at = 0
    while at < len(told):
        end = at + 1 + told[at]
        parts.append(told[at + 1:end])
        at = end
    if at != len(told):
        raise AssertionError(f"the last answer is cut short: {told}")
    return parts


def ask(*calls):
    """What each call answers, a list for each."""
    told = answers(flat(calls))
    if type(told) is not list or any(type(number) is not int for number in told):
        raise AssertionError(f"not a list of whole numbers: {told}")
    parts = told_apart(told)
    if len(parts) != len(calls):
        raise AssertionError(f"{len(calls)} calls, {len(parts)} answers")
    return parts


def last_of(*calls):
    return ask(*calls)[-1]


def planned(*landings):
    """The answer of plan whose landings, (number, time) each, are these."""
    rows = [number for landing in landings for number in landing]
    return [landings[-1][1] if landings else 0, len(rows)] + rows


def stated(come, shift=1, rooms=(), landed=(), waiting=()):
    """The answer of state: the rooms that aren't 1 as (ahead, behind, much),
    those that landed as (number, time), those that wait as (number, class,
    first, last)."""
    settings = [shift] + [1] * 16
    for ahead, behind, much in rooms:
        settings[1 + 4 * ahead + behind] = much
    lists = [settings, flat(landed), flat(waiting)]
    return [come] + [number for one in lists for number in [len(one)] + one]


def check_refused(test, before, refused, reason, behind):
    """The refused call answers its reason, and the answers of those behind it
    are the same as if it had never been made."""
    told = ask(*before, refused, *behind)
    test.assertEqual(told[len(before)], [reason])
    del told[len(before)]
    test.assertEqual(told, ask(*before, *behind))


def check_changes_nothing(test, asked, line):
    """Made behind each call of a line, the call that is asked leaves the
    answers of all the others as they are without it."""
    spread = [call for plain in line for call in (plain, asked, STATE)]
    told = ask(*spread)
    test.assertEqual(told[::3], ask(*line))
    test.assertEqual(told[2::3], ask(*[call for plain in line for call in (plain, STATE)])[1::2])
