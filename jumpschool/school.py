"""The interface: answers(calls) makes the calls on a new school; for each, how many numbers it answers, then these."""

from jumpschool.field import check, give, let_days_pass, pack, set_wind, take_back
from jumpschool.load import board, fly, go_off, join_group
from jumpschool.records import School
from jumpschool.refusals import NOT_BEGUN
from jumpschool.roster import add_gear, add_jumper, add_kind, begin

BEGIN = 0
KIND = 1
JUMPER = 2
GEAR = 3
GIVE = 4
BACK = 5
PACK = 6
CHECK = 7
WIND = 8
DAYS = 9
BOARD = 10
JOIN = 11
OFF = 12
FLY = 13

# How many numbers each call has behind its own, by the call's number.
ARGUMENTS = (3, 3, 3, 1, 2, 1, 1, 1, 1, 1, 2, 2, 1, 0)


def answer_roster_call(school, number, given):
    if number == BEGIN:
        return begin(school, given[0], given[1], given[2])
    if number == KIND:
        return add_kind(school, given[0], given[1], given[2])
    if number == JUMPER:
        return add_jumper(school, given[0], given[1], given[2])
    return add_gear(school, given[0])


def answer_field_call(school, number, given):
    if number == GIVE:
        return give(school, given[0], given[1])
    if number == BACK:
        return take_back(school, given[0])
    if number == PACK:
        return pack(school, given[0])
    if number == CHECK:
        return check(school, given[0])
    if number == WIND:
        return set_wind(school, given[0])
    return let_days_pass(school, given[0])


def answer_load_call(school, number, given):
    if number == BOARD:
        return board(school, given[0], given[1])
    if number == JOIN:
        return join_group(school, given[0], given[1])
    if number == OFF:
        return go_off(school, given[0])
    return fly(school)


def answer_call(school, number, given):
    if number != BEGIN and not school.begun:
        return [NOT_BEGUN]
    if number <= GEAR:
        return answer_roster_call(school, number, given)
    if number <= DAYS:
        return answer_field_call(school, number, given)
    return answer_load_call(school, number, given)


def answers(calls):
    school = School()
    answered = []
    at = 0
    while at < len(calls):
        behind = at + 1 + ARGUMENTS[calls[at]]
        answer = answer_call(school, calls[at], calls[at + 1:behind])
        answered.append(len(answer))
        answered.extend(answer)
        at = behind
    return answered
