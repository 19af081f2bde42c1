"""Calls in numbers, and their answers, as the tests write them."""

from jobyard.yard import answers

START = [0]
MOST_ROOM = 16777216
MOST_BELOW_2_32 = 4294967295
MOST_WHOLE = 9223372036854775807


def machine(i, has=(4, 4, 4, 4), labels=0, zone=0, none=0):
    return [1, i, *has, labels, zone, none]


def down(i):
    return [2, i]


def job(j, wants=(1, 1, 1, 1), needs=0, never=0, copies=1, apart=0, spread=0, rank=0):
    return [3, j, *wants, needs, never, copies, apart, spread, rank]


def joined(*calls):
    return [number for call in calls for number in call]


def numbers(*calls):
    """What each call behind a first jo_start answers, where each answers a number alone."""
    told = answers(joined(START, *calls))
    if len(told) != 3 * (len(calls) + 1) or told[:3] != [2, 0, 0]:
        raise AssertionError(f"not one number for each call: {told}")
    if told[0::3] != [2] * (len(calls) + 1) or set(told[1::3]) != {0}:
        raise AssertionError(f"not two numbers and form 0 for each call: {told}")
    return told[5::3]


def with_one(four, place, number):
    return tuple(number if k == place else old for k, old in enumerate(four))
