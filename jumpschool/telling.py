"""The calls that tell of a jumper, of a piece of gear, of the school: look, told, state."""

from jumpschool.refusals import NO_SUCH
from jumpschool.rules import count_aboard, group_of, wearer_of


def number_and_one(number):
    # 0 stands for none, so each number is told one higher.
    if number is None:
        return 0
    return number + 1


def look_at_jumper(school, j):
    if j >= len(school.jumpers):
        return [NO_SUCH]
    jumper = school.jumpers[j]
    group = group_of(school, j)
    kind = None if group is None else group.kind
    days_ago = school.day - jumper.last_day
    return [jumper.licence, jumper.jumps, jumper.weight, days_ago, number_and_one(jumper.wears), number_and_one(kind)]


def tell_of_gear(school, g):
    if g >= len(school.gear):
        return [NO_SUCH]
    piece = school.gear[g]
    packed = 1 if piece.packed else 0
    return [piece.bears, packed, school.day - piece.packed_on, piece.jumps, number_and_one(wearer_of(school, g))]


def tell_state(school):
    there = [len(school.kinds), len(school.jumpers), len(school.gear)]
    return [school.day, school.wind] + there + [count_aboard(school), school.loads_flown]
