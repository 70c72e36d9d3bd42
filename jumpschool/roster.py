"""The calls that set up a school: begin, kind, jumper, gear."""

from jumpschool.records import Gear, Jumper, Kind
from jumpschool.refusals import OUT_OF_RANGE, TOO_MANY
from jumpschool.rules import MOST_LICENCE, is_from_one_to

MOST_SEATS = 16
MOST_PACK_DAYS = 400
MOST_METRES = 2000
MOST_KINDS = 6
MOST_JUMPERS = 16
MOST_GEAR = 12
MOST_JUMPS = 1000
MOST_DAYS = 1000
MOST_WEIGHT = 200


def begin(school, seats, pack_days, metres):
    if not is_from_one_to(seats, MOST_SEATS):
        return [OUT_OF_RANGE]
    if not is_from_one_to(pack_days, MOST_PACK_DAYS):
        return [OUT_OF_RANGE]
    if not is_from_one_to(metres, MOST_METRES):
        return [OUT_OF_RANGE]
    school.begin_anew(seats, pack_days, metres)
    school.begun = True
    return [0]


def add_kind(school, licence, jumps, days):
    if len(school.kinds) >= MOST_KINDS:
        return [TOO_MANY]
    if licence > MOST_LICENCE or jumps > MOST_JUMPS or days > MOST_DAYS:
        return [OUT_OF_RANGE]
    school.kinds.append(Kind(licence, jumps, days))
    return [len(school.kinds) - 1]


def add_jumper(school, licence, jumps, weight):
    if len(school.jumpers) >= MOST_JUMPERS:
        return [TOO_MANY]
    if licence > MOST_LICENCE or jumps > MOST_JUMPS or not is_from_one_to(weight, MOST_WEIGHT):
        return [OUT_OF_RANGE]
    school.jumpers.append(Jumper(licence, jumps, weight, school.day))
    return [len(school.jumpers) - 1]


def add_gear(school, bears):
    if len(school.gear) >= MOST_GEAR:
        return [TOO_MANY]
    if not is_from_one_to(bears, MOST_WEIGHT):
        return [OUT_OF_RANGE]
    school.gear.append(Gear(bears, school.day))
    return [len(school.gear) - 1]
