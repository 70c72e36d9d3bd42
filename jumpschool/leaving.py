"""The calls that tell how the load leaves the plane: order, groups, gap, passes."""

from jumpschool.refusals import OUT_OF_RANGE
from jumpschool.rules import count_aboard, groups_as_they_leave, is_from_one_to

MOST_SPEED = 200
MOST_SECONDS = 600


def rounded_up(number, part):
    return (number + part - 1) // part


def seconds_apart(school, speed):
    return rounded_up(school.metres, speed)


def tell_order(school):
    answer = [count_aboard(school)]
    for group in groups_as_they_leave(school):
        answer.extend(group.members)
    return answer


def tell_groups(school):
    answer = [len(school.load)]
    for group in groups_as_they_leave(school):
        answer.append(group.kind)
        answer.append(len(group.members))
    return answer


def tell_gap(school, speed):
    if not is_from_one_to(speed, MOST_SPEED):
        return [OUT_OF_RANGE]
    apart = seconds_apart(school, speed)
    # Without any group there's no first and no last, so nothing lies between.
    gaps = max(len(school.load) - 1, 0)
    return [apart, gaps * apart]


def tell_passes(school, speed, seconds):
    if not is_from_one_to(speed, MOST_SPEED) or seconds > MOST_SECONDS:
        return [OUT_OF_RANGE]
    # The first leaves as the pass begins, so even a pass of no seconds lets one leave.
    in_one = 1 + seconds // seconds_apart(school, speed)
    return [rounded_up(len(school.load), in_one), in_one]
