"""The calls that ask who may jump and which gear will do: may, who, fits, due."""

from jumpschool.refusals import NO_SUCH, OUT_OF_RANGE
from jumpschool.rules import MAY, free_good_gear, is_pack_too_old, why_not

MOST_DAYS_AHEAD = 400


def counted(numbers):
    return [len(numbers)] + numbers


def may_jump(school, j, k):
    if j >= len(school.jumpers) or k >= len(school.kinds):
        return [NO_SUCH]
    return [why_not(school, j, k)]


def who_may_jump(school, k):
    if k >= len(school.kinds):
        return [NO_SUCH]
    return counted([j for j in range(len(school.jumpers)) if why_not(school, j, k) == MAY])


def gear_that_fits(school, j):
    if j >= len(school.jumpers):
        return [NO_SUCH]
    weight = school.jumpers[j].weight
    return counted([g for g in free_good_gear(school) if weight <= school.gear[g].bears])


def gear_due(school, days):
    if days > MOST_DAYS_AHEAD:
        return [OUT_OF_RANGE]
    then = school.day + days
    packed = [g for g in range(len(school.gear)) if school.gear[g].packed]
    return counted([g for g in packed if is_pack_too_old(school, school.gear[g], then)])
