"""The calls on the ground: give, back, pack, check, wind, days."""

from jumpschool.refusals import NO_SUCH, NONE_THERE, OUT_OF_RANGE, SO_ALREADY, TAKEN, TOO_HEAVY
from jumpschool.rules import group_of, is_from_one_to, wearer_of

MOST_WIND = 50
MOST_DAYS_AT_ONCE = 400


def give(school, j, g):
    if j >= len(school.jumpers) or g >= len(school.gear):
        return [NO_SUCH]
    jumper = school.jumpers[j]
    if jumper.wears is not None:
        return [SO_ALREADY]
    if wearer_of(school, g) is not None:
        return [TAKEN]
    if jumper.weight > school.gear[g].bears:
        return [TOO_HEAVY]
    jumper.wears = g
    return [0]


def take_back(school, j):
    if j >= len(school.jumpers):
        return [NO_SUCH]
    jumper = school.jumpers[j]
    if jumper.wears is None:
        return [NONE_THERE]
    if group_of(school, j) is not None:
        return [TAKEN]
    worn = jumper.wears
    jumper.wears = None
    return [worn]


def pack(school, g):
    if g >= len(school.gear):
        return [NO_SUCH]
    piece = school.gear[g]
    if piece.packed and piece.packed_on == school.day:
        return [SO_ALREADY]
    piece.packed = True
    piece.packed_on = school.day
    return [0]


def check(school, g):
    if g >= len(school.gear):
        return [NO_SUCH]
    piece = school.gear[g]
    had = piece.jumps
    piece.jumps = 0
    return [had]


def set_wind(school, wind):
    if wind > MOST_WIND:
        return [OUT_OF_RANGE]
    before = school.wind
    school.wind = wind
    return [before]


def let_days_pass(school, days):
    if not is_from_one_to(days, MOST_DAYS_AT_ONCE):
        return [OUT_OF_RANGE]
    school.day = school.day + days
    return [school.day]
