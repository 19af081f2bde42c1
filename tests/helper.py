"""Calls in numbers, and their answers, as the tests write them."""

from jobyard.yard import answers

START = [0]
TURN = [5]
MOST_ROOM = 16777216
MOST_BELOW_2_32 = 4294967295
MOST_WHOLE = 9223372036854775807

NOT_THERE = [0, -2]
WAITS = [0, -11]
NONE_PLACED = [0, -11]


def machine(i, has=(4, 4, 4, 4), labels=0, zone=0, none=0):
    return [1, i, *has, labels, zone, none]


def down(i):
    return [2, i]


def job(j, wants=(1, 1, 1, 1), needs=0, never=0, copies=1, apart=0, spread=0, rank=0):
    return [3, j, *wants, needs, never, copies, apart, spread, rank]


def end(j):
    return [4, j]


def where(j):
    return [6, j]


def free(i):
    return [7, i]


def alone(number):
    return [0, number]


def placed(j, *put_out):
    return [1, j, len(put_out), *put_out]


def on(*machines):
    return [2, len(machines), *machines]


def room(a, b, c, d):
    return [3, a, b, c, d]


def joined(*calls):
    return [number for call in calls for number in call]


def split(told):
    """The answer of each call by itself, its form first."""
    found, start = [], 0
    while start < len(told):
        stop = start + 1 + told[start]
        if stop > len(told):
            raise AssertionError(f"an answer that is cut off: {told[start:]}")
        found.append(told[start + 1:stop])
        start = stop
    return found


def told_by(*calls):
    """What each call behind a first jo_start answers, its form first."""
    found = split(answers(joined(START, *calls)))
    if len(found) != len(calls) + 1 or found[0] != [0, 0]:
        raise AssertionError(f"not one answer for each call: {found}")
    return found[1:]


def last_told(how_many, *calls):
    return told_by(*calls)[-how_many:]


def numbers(*calls):
    """What each call behind a first jo_start answers, where each answers a number alone."""
    found = told_by(*calls)
    if any(len(answer) != 2 or answer[0] != 0 for answer in found):
        raise AssertionError(f"not two numbers and form 0 for each call: {found}")
    return [answer[1] for answer in found]


def with_one(four, place, number):
    return tuple(number if k == place else old for k, old in enumerate(four))
