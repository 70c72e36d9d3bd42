"""Calls by their names, and a line's answers taken apart call by call."""

from jumpschool.school import answers

HUGE = 4294967295


def begin(seats, pack_days, metres):
    return [0, seats, pack_days, metres]


def kind(licence, jumps, days):
    return [1, licence, jumps, days]


def jumper(licence, jumps, weight):
    return [2, licence, jumps, weight]


def gear(bears):
    return [3, bears]


def give(j, g):
    return [4, j, g]


def back(j):
    return [5, j]


def pack(g):
    return [6, g]


def check(g):
    return [7, g]


def wind(w):
    return [8, w]


def days(n):
    return [9, n]


def board(j, k):
    return [10, j, k]


def join(j, i):
    return [11, j, i]


def off(j):
    return [12, j]


def fly():
    return [13]


def told(calls):
    """What each call of the line answers, a list for each."""
    flat = answers([number for call in calls for number in call])
    taken = []
    at = 0
    while at < len(flat):
        behind = at + 1 + flat[at]
        taken.append(flat[at + 1:behind])
        at = behind
    if at != len(flat) or len(taken) != len(calls):
        raise AssertionError(f"{len(calls)} calls, answered {flat}")
    return taken


def last(calls):
    return told(calls)[-1]


def school(jumpers, kinds=((0, 0, 1000),), seats=16, pack_days=400):
    """A school whose jumpers (licence, jumps, weight) each wear the gear of their own number."""
    calls = [begin(seats, pack_days, 100)]
    calls += [kind(*each) for each in kinds]
    for number, each in enumerate(jumpers):
        calls += [jumper(*each), gear(200), give(number, number)]
    return calls
