"""The calls on the load: board, join, off, fly."""

from jumpschool.records import Group
from jumpschool.refusals import NO_SUCH, NONE_THERE, SO_ALREADY, TOO_MANY
from jumpschool.rules import MAY, count_aboard, group_of, groups_as_they_leave, why_not


def why_no_seat(school, j, k):
    why = why_not(school, j, k)
    if why != MAY:
        return why
    if count_aboard(school) >= school.seats:
        return TOO_MANY
    return MAY


def board(school, j, k):
    if j >= len(school.jumpers) or k >= len(school.kinds):
        return [NO_SUCH]
    if group_of(school, j) is not None:
        return [SO_ALREADY]
    why = why_no_seat(school, j, k)
    if why != MAY:
        return [why]
    school.load.append(Group(k, j))
    return [count_aboard(school)]


def join_group(school, j, i):
    if j >= len(school.jumpers) or i >= len(school.jumpers):
        return [NO_SUCH]
    if group_of(school, j) is not None:
        return [SO_ALREADY]
    group = group_of(school, i)
    if group is None:
        return [NONE_THERE]
    why = why_no_seat(school, j, group.kind)
    if why != MAY:
        return [why]
    group.members = sorted(group.members + [j])
    return [len(group.members)]


def go_off(school, j):
    if j >= len(school.jumpers):
        return [NO_SUCH]
    group = group_of(school, j)
    if group is None:
        return [NONE_THERE]
    group.members.remove(j)
    # A group without anybody is none: it must not be counted when the load flies.
    school.load = [kept for kept in school.load if len(kept.members) > 0]
    return [count_aboard(school)]


def why_load_may_not_fly(school):
    for group in groups_as_they_leave(school):
        for j in group.members:
            why = why_not(school, j, group.kind)
            if why != MAY:
                return why
    return MAY


def count_jump(school, j):
    jumper = school.jumpers[j]
    jumper.jumps = jumper.jumps + 1
    jumper.last_day = school.day
    piece = school.gear[jumper.wears]
    piece.packed = False
    piece.jumps = piece.jumps + 1


def fly(school):
    if len(school.load) == 0:
        return [NONE_THERE]
    why = why_load_may_not_fly(school)
    if why != MAY:
        return [why]
    flown = [count_aboard(school), len(school.load)]
    for group in school.load:
        for j in group.members:
            count_jump(school, j)
    school.load = []
    school.loads_flown = school.loads_flown + 1
    return flown
