"""The interface: answers(calls) makes the calls on a new school; for each, how many numbers it answers, then these."""

from jumpschool.asking import gear_due, gear_that_fits, may_jump, who_may_jump
from jumpschool.field import check, give, let_days_pass, pack, set_wind, take_back
from jumpschool.leaving import tell_gap, tell_groups, tell_order, tell_passes
from jumpschool.load import board, fly, go_off, join_group
from jumpschool.outfit import count_to_dress, dress, promote
from jumpschool.records import School
from jumpschool.refusals import NOT_BEGUN
from jumpschool.roster import add_gear, add_jumper, add_kind, begin
from jumpschool.telling import look_at_jumper, tell_of_gear, tell_state

BEGIN = 0
KIND = 1
JUMPER = 2
GEAR = 3
GIVE = 4
BACK = 5
PACK = 6
CHECK = 7
WIND = 8
DAYS = 9
BOARD = 10
JOIN = 11
OFF = 12
FLY = 13
PROMOTE = 14
DRESS = 15
MOST = 16
MAY_JUMP = 17
WHO = 18
FITS = 19
DUE = 20
ORDER = 21
GROUPS = 22
GAP = 23
PASSES = 24
LOOK = 25
TOLD = 26
STATE = 27

# How many numbers each call has behind its own, by the call's number.
ARGUMENTS = (3, 3, 3, 1, 2, 1, 1, 1, 1, 1, 2, 2, 1, 0, 1, 0, 0, 2, 1, 1, 1, 0, 0, 1, 2, 1, 1, 0)


def answer_roster_call(school, number, given):
    if number == BEGIN:
        return begin(school, given[0], given[1], given[2])
    if number == KIND:
        return add_kind(school, given[0], given[1], given[2])
    if number == JUMPER:
        return add_jumper(school, given[0], given[1], given[2])
    return add_gear(school, given[0])


def answer_field_call(school, number, given):
    if number == GIVE:
        return give(school, given[0], given[1])
    if number == BACK:
        return take_back(school, given[0])
    if number == PACK:
        return pack(school, given[0])
    if number == CHECK:
        return check(school, given[0])
    if number == WIND:
        return set_wind(school, given[0])
    return let_days_pass(school, given[0])


def answer_load_call(school, number, given):
    if number == BOARD:
        return board(school, given[0], given[1])
    if number == JOIN:
        return join_group(school, given[0], given[1])
    if number == OFF:
        return go_off(school, given[0])
    return fly(school)


def answer_outfit_call(school, number, given):
    if number == PROMOTE:
        return promote(school, given[0])
    if number == DRESS:
        return dress(school)
    return count_to_dress(school)


def answer_asking_call(school, number, given):
    if number == MAY_JUMP:
        return may_jump(school, given[0], given[1])
    if number == WHO:
        return who_may_jump(school, given[0])
    if number == FITS:
        return gear_that_fits(school, given[0])
    return gear_due(school, given[0])


def answer_leaving_call(school, number, given):
    if number == ORDER:
        return tell_order(school)
    if number == GROUPS:
        return tell_groups(school)
    if number == GAP:
        return tell_gap(school, given[0])
    return tell_passes(school, given[0], given[1])


def answer_telling_call(school, number, given):
    if number == LOOK:
        return look_at_jumper(school, given[0])
    if number == TOLD:
        return tell_of_gear(school, given[0])
    return tell_state(school)


def answer_call(school, number, given):
    if number != BEGIN and not school.begun:
        return [NOT_BEGUN]
    if number <= GEAR:
        return answer_roster_call(school, number, given)
    if number <= DAYS:
        return answer_field_call(school, number, given)
    if number <= FLY:
        return answer_load_call(school, number, given)
    if number <= MOST:
        return answer_outfit_call(school, number, given)
    if number <= DUE:
        return answer_asking_call(school, number, given)
    if number <= PASSES:
        return answer_leaving_call(school, number, given)
    return answer_telling_call(school, number, given)


def answers(calls):
    school = School()
    answered = []
    at = 0
    while at < len(calls):
        behind = at + 1 + ARGUMENTS[calls[at]]
        answer = answer_call(school, calls[at], calls[at + 1:behind])
        answered.append(len(answer))
        answered.extend(answer)
        at = behind
    return answered
