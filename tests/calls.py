"""Calls by their names, and a line's answers taken apart call by call."""

from jumpschool.school import answers

HUGE = 4294967295


def begin(seats, pack_days, metres):
    return [0, seats, pack_days, metres]


def kind(licence, jumps, days):
    return [1, licence, jumps, days]


def jumper(licence, jumps, weight):
    return [2, licence, jumps, weight]


def gear(bears):
    return [3, bears]


def give(j, g):
    return [4, j, g]


def back(j):
    return [5, j]


def pack(g):
    return [6, g]


def check(g):
    return [7, g]


def wind(w):
    return [8, w]


def days(n):
    return [9, n]


def board(j, k):
    return [10, j, k]


def join(j, i):
    return [11, j, i]


def off(j):
    return [12, j]


def fly():
    return [13]


def promote(j):
    return [14, j]


def dress():
    return [15]


def most():
    return [16]


def may(j, k):
    return [17, j, k]


def who(k):
    return [18, k]


def fits(j):
    return [19, j]


def due(n):
    return [20, n]


def order():
    return [21]


def groups():
    return [22]


def gap(v):
    return [23, v]


def passes(v, n):
    return [24, v, n]


def look(j):
    return [25, j]


def told_of(g):
    return [26, g]


def state():
    return [27]


def flat(calls):
    return [number for call in calls for number in call]


def told(calls):
    """What each call of the line answers, a list for each."""
    answered = answers(flat(calls))
    taken = []
    at = 0
    while at < len(answered):
        behind = at + 1 + answered[at]
        taken.append(answered[at + 1:behind])
        at = behind
    if at != len(answered) or len(taken) != len(calls):
        raise AssertionError(f"{len(calls)} calls, answered {answered}")
    return taken


def last(calls):
    return told(calls)[-1]


def tail(calls, asked):
    """What the calls asked answer, made behind the others."""
    return told(calls + asked)[len(calls):]


def seen(calls):
    """All that can be seen of the school behind the calls: each jumper, each piece, the state, order and groups."""
    asked = [look(j) for j in range(16)] + [told_of(g) for g in range(12)] + [state(), order(), groups()]
    return tail(calls, asked)


def school(jumpers, kinds=((0, 0, 1000),), seats=16, pack_days=400, metres=100):
    """A school whose jumpers (licence, jumps, weight) each wear the gear of their own number."""
    calls = [begin(seats, pack_days, metres)]
    calls += [kind(*each) for each in kinds]
    for number, each in enumerate(jumpers):
        calls += [jumper(*each), gear(200), give(number, number)]
    return calls
