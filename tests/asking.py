"""Helps the tests: spells calls as the interface asks, and takes apart what is answered."""

from caryard.yard import answers

HIGHEST = 4294967295

# What a number of a call may be when it is out of every range that the document gives.
FAR_OUT = (6, 7, 24, 25, 255, 256, 65536, 2147483647, 2147483648, HIGHEST - 1, HIGHEST)

FEWEST = [5]
PLAN = [6]
REACH = [7]
HARDEST = [9]
STATE = [10]


def begins(rows, columns):
    return [0, rows, columns]


def car(upright, line, place, length):
    return [1, upright, line, place, length]


def move(number, place):
    return [2, number, place]


def want(number, place):
    return [3, number, place]


def free(number):
    return [4, number]


def places(number):
    return [8, number]


def apart(answered):
    """The answers of the calls, a list each."""
    found = []
    at = 0
    while at < len(answered):
        behind = at + 1 + answered[at]
        if answered[at] < 1 or behind > len(answered):
            raise AssertionError(f"misspelled answers: {answered!r}")
        found.append(answered[at + 1:behind])
        at = behind
    return found


def ask(*calls):
    """What each of the calls answers, asked in one list."""
    found = apart(answers([number for call in calls for number in call]))
    if len(found) != len(calls):
        raise AssertionError(f"{len(calls)} calls, {len(found)} answers")
    return found


def last(*calls):
    """What the last of the calls answers."""
    return ask(*calls)[-1]
