"""Which numbers are in range, who may jump what, who wears what, who is aboard, and how groups leave."""

from jumpschool.refusals import FEWER_JUMPS, LESSER_LICENCE, NO_GEAR, NOT_PACKED, PACK_TOO_OLD
from jumpschool.refusals import TOO_LONG_AGO, TOO_MANY_JUMPS, TOO_MUCH_WIND

MAY = 0
MOST_LICENCE = 3
LEAST_WIND_BORNE = 6
WIND_BORNE_FOR_EACH_LICENCE = 3
JUMPS_BEFORE_A_LOOK = 50


def is_from_one_to(number, most):
    return 1 <= number and number <= most


def wind_borne(licence):
    return LEAST_WIND_BORNE + WIND_BORNE_FOR_EACH_LICENCE * licence


def is_pack_too_old(school, piece, day):
    return day - piece.packed_on > school.pack_days


def why_gear_is_not_good(school, piece):
    if not piece.packed:
        return NOT_PACKED
    if is_pack_too_old(school, piece, school.day):
        return PACK_TOO_OLD
    if piece.jumps >= JUMPS_BEFORE_A_LOOK:
        return TOO_MANY_JUMPS
    return MAY


def why_not(school, j, k):
    # Of several reasons the first is told, so their order here is the promise.
    jumper = school.jumpers[j]
    kind = school.kinds[k]
    if jumper.licence < kind.licence:
        return LESSER_LICENCE
    if jumper.jumps < kind.jumps:
        return FEWER_JUMPS
    if school.day - jumper.last_day > kind.days:
        return TOO_LONG_AGO
    if school.wind > wind_borne(jumper.licence):
        return TOO_MUCH_WIND
    if jumper.wears is None:
        return NO_GEAR
    return why_gear_is_not_good(school, school.gear[jumper.wears])


def wearer_of(school, g):
    for j in range(len(school.jumpers)):
        if school.jumpers[j].wears == g:
            return j
    return None


def is_free_and_good(school, g):
    return wearer_of(school, g) is None and why_gear_is_not_good(school, school.gear[g]) == MAY


def free_good_gear(school):
    return [g for g in range(len(school.gear)) if is_free_and_good(school, g)]


def group_of(school, j):
    for group in school.load:
        if j in group.members:
            return group
    return None


def count_aboard(school):
    return sum([len(group.members) for group in school.load])


def leaving_rank(group):
    # The larger group leaves first, so its size counts downwards.
    return (group.kind, -len(group.members), group.members[0])


def groups_as_they_leave(school):
    return sorted(school.load, key=leaving_rank)
