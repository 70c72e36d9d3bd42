"""The calls that fit jumpers out, with the next licence or with gear: promote, dress, most."""

from jumpschool.refusals import FEWER_JUMPS, NO_SUCH, SO_ALREADY
from jumpschool.rules import MOST_LICENCE, free_good_gear

# How many jumps each licence needs, by the licence.
JUMPS_FOR_LICENCE = (0, 10, 50, 200)


def promote(school, j):
    if j >= len(school.jumpers):
        return [NO_SUCH]
    jumper = school.jumpers[j]
    if jumper.licence >= MOST_LICENCE:
        return [SO_ALREADY]
    if jumper.jumps < JUMPS_FOR_LICENCE[jumper.licence + 1]:
        return [FEWER_JUMPS]
    jumper.licence = jumper.licence + 1
    return [jumper.licence]


def jumpers_without_gear(school):
    bare = [j for j in range(len(school.jumpers)) if school.jumpers[j].wears is None]
    return sorted(bare, key=lambda j: (school.jumpers[j].weight, j))


def gear_to_give(school):
    return sorted(free_good_gear(school), key=lambda g: (school.gear[g].bears, g))


def pairs_to_dress(school):
    # The lightest is asked alone: gear that's too weak for them is too weak for all who are left, so it goes.
    waiting = jumpers_without_gear(school)
    pairs = []
    for g in gear_to_give(school):
        if len(pairs) == len(waiting):
            break
        j = waiting[len(pairs)]
        if school.jumpers[j].weight <= school.gear[g].bears:
            pairs.append((j, g))
    return pairs


def dress(school):
    pairs = pairs_to_dress(school)
    answer = [len(pairs)]
    for pair in pairs:
        school.jumpers[pair[0]].wears = pair[1]
        answer.extend(pair)
    return answer


def count_to_dress(school):
    return [len(pairs_to_dress(school))]
