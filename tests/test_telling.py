"""Promise 8: look, told, state, and how each call that changes something is seen through them."""

import unittest

from tests.calls import (HUGE, back, begin, board, check, days, dress, fly, gear, give, groups, join, jumper, kind,
                         last, look, off, order, pack, promote, school, seen, state, tail, told_of, wind)

THREE = school([(0, 10, 80), (1, 3, 90), (2, 0, 70)], kinds=((0, 0, 9), (1, 2, 9)))


def changed(calls, more):
    """What is seen otherwise behind more calls: where it stands in seen, then before, then after."""
    before = seen(calls)
    after = seen(calls + more)
    return [(at, before[at], after[at]) for at in range(len(before)) if before[at] != after[at]]


def at_gear(g):
    return 16 + g


AT_STATE = 28
AT_ORDER = 29
AT_GROUPS = 30


class Look(unittest.TestCase):
    def test_who_just_came(self):
        calls = [begin(1, 1, 1), jumper(3, 1000, 200), jumper(0, 0, 1)]
        self.assertEqual(tail(calls, [look(0), look(1)]), [[3, 1000, 200, 0, 0, 0], [0, 0, 1, 0, 0, 0]])

    def test_there_is_none_such(self):
        self.assertEqual(tail(THREE, [look(3), look(HUGE)]), [[-2], [-2]])
        self.assertEqual(last([begin(1, 1, 1), gear(80), kind(0, 0, 0), look(0)]), [-2])

    def test_the_last_jump_is_at_first_the_day_they_came(self):
        calls = [begin(1, 1, 1), days(5), jumper(0, 0, 80), days(3), jumper(0, 0, 80)]
        self.assertEqual(tail(calls, [look(0), look(1)]), [[0, 0, 80, 3, 0, 0], [0, 0, 80, 0, 0, 0]])

    def test_gear_and_kind_are_told_one_higher(self):
        calls = THREE + [board(1, 1), board(0, 0)]
        self.assertEqual(tail(calls, [look(0), look(1), look(2)]),
                         [[0, 10, 80, 0, 1, 1], [1, 3, 90, 0, 2, 2], [2, 0, 70, 0, 3, 0]])


class Told(unittest.TestCase):
    def test_what_just_came(self):
        calls = [begin(1, 1, 1), gear(200), days(2), gear(1)]
        self.assertEqual(tail(calls, [told_of(0), told_of(1)]), [[200, 1, 2, 0, 0], [1, 1, 0, 0, 0]])

    def test_there_is_none_such(self):
        self.assertEqual(tail(THREE, [told_of(3), told_of(HUGE)]), [[-2], [-2]])
        self.assertEqual(last([begin(1, 1, 1), jumper(0, 0, 80), kind(0, 0, 0), told_of(0)]), [-2])

    def test_who_wears_it_is_told_one_higher(self):
        calls = [begin(1, 1, 1)] + [jumper(0, 0, 80)] * 2 + [gear(80)] * 3 + [give(0, 2), give(1, 0)]
        self.assertEqual(tail(calls, [told_of(0), told_of(1), told_of(2)]),
                         [[80, 1, 0, 0, 2], [80, 1, 0, 0, 0], [80, 1, 0, 0, 1]])

    def test_when_it_was_packed_last_stays_told_where_it_is_not_packed(self):
        calls = THREE + [days(2), board(0, 0), fly(), days(3)]
        self.assertEqual(tail(calls, [told_of(0), told_of(1)]), [[200, 0, 5, 1, 1], [200, 1, 5, 0, 2]])
        self.assertEqual(tail(calls, [pack(0), days(1), told_of(0)])[2], [200, 1, 1, 1, 1])

    def test_a_pack_that_is_too_old_is_still_a_pack(self):
        calls = [begin(1, 1, 1), gear(80), days(400), days(1)]
        self.assertEqual(last(calls + [told_of(0)]), [80, 1, 401, 0, 0])

    def test_fifty_jumps_and_more_are_told(self):
        calls = school([(0, 0, 80)]) + [board(0, 0), fly(), pack(0)] * 50
        self.assertEqual(tail(calls, [told_of(0), look(0), state()]),
                         [[200, 1, 0, 50, 1], [0, 50, 80, 0, 1, 0], [0, 0, 1, 1, 1, 0, 50]])


class State(unittest.TestCase):
    def test_what_just_began(self):
        self.assertEqual(last([begin(1, 1, 1), state()]), [0, 0, 0, 0, 0, 0, 0])

    def test_each_number_at_its_place(self):
        calls = THREE + [jumper(0, 0, 80)] * 2 + [gear(80), days(7), wind(5), board(0, 0), fly(), board(1, 1)]
        self.assertEqual(last(calls + [state()]), [7, 5, 2, 5, 4, 1, 1])

    def test_people_aboard_are_counted_not_groups(self):
        self.assertEqual(last(THREE + [board(0, 0), join(1, 0), join(2, 0), state()]), [0, 0, 2, 3, 3, 3, 0])

    def test_loads_are_counted_not_people(self):
        calls = THREE + [board(0, 0), join(1, 0), board(2, 0), fly(), pack(0), board(0, 0), fly()]
        self.assertEqual(last(calls + [state()]), [0, 0, 2, 3, 3, 0, 2])

    def test_a_refused_flight_is_none(self):
        calls = THREE + [fly(), board(0, 0), wind(7), fly()]
        self.assertEqual(last(calls + [state()]), [0, 7, 2, 3, 3, 1, 0])

    def test_a_begin_after_a_begin(self):
        calls = THREE + [days(7), wind(5), board(0, 0), fly(), board(1, 1)]
        self.assertEqual(tail(calls, [state(), begin(0, 1, 1), state()]),
                         [[7, 5, 2, 3, 3, 1, 1], [-22], [7, 5, 2, 3, 3, 1, 1]])
        self.assertEqual(tail(calls, [begin(1, 1, 1), state(), order(), groups(), look(0), told_of(0)]),
                         [[0], [0, 0, 0, 0, 0, 0, 0], [0], [0], [-2], [-2]])


class WhatEachCallChanges(unittest.TestCase):
    def test_kind_jumper_gear(self):
        self.assertEqual(changed(THREE, [kind(0, 0, 0)]), [(AT_STATE, [0, 0, 2, 3, 3, 0, 0], [0, 0, 3, 3, 3, 0, 0])])
        self.assertEqual(changed(THREE, [jumper(1, 2, 3)]), [
            (3, [-2], [1, 2, 3, 0, 0, 0]), (AT_STATE, [0, 0, 2, 3, 3, 0, 0], [0, 0, 2, 4, 3, 0, 0])])
        self.assertEqual(changed(THREE, [gear(55)]), [
            (at_gear(3), [-2], [55, 1, 0, 0, 0]), (AT_STATE, [0, 0, 2, 3, 3, 0, 0], [0, 0, 2, 3, 4, 0, 0])])

    def test_give_and_back(self):
        back_one = [(1, [1, 3, 90, 0, 2, 0], [1, 3, 90, 0, 0, 0]), (at_gear(1), [200, 1, 0, 0, 2], [200, 1, 0, 0, 0])]
        self.assertEqual(changed(THREE, [back(1)]), back_one)
        self.assertEqual(changed(THREE, [back(1), give(1, 1)]), [])
        self.assertEqual(changed(THREE + [back(1), back(2)], [give(2, 1)]), [
            (2, [2, 0, 70, 0, 0, 0], [2, 0, 70, 0, 2, 0]), (at_gear(1), [200, 1, 0, 0, 0], [200, 1, 0, 0, 3])])

    def test_dress(self):
        self.assertEqual(changed(THREE, [dress()]), [])
        self.assertEqual(changed(THREE + [back(1), back(0)], [dress()]), [
            (0, [0, 10, 80, 0, 0, 0], [0, 10, 80, 0, 1, 0]), (1, [1, 3, 90, 0, 0, 0], [1, 3, 90, 0, 2, 0]),
            (at_gear(0), [200, 1, 0, 0, 0], [200, 1, 0, 0, 1]), (at_gear(1), [200, 1, 0, 0, 0], [200, 1, 0, 0, 2])])

    def test_pack(self):
        self.assertEqual(changed(THREE, [pack(0)]), [])
        self.assertEqual(changed(THREE + [days(4)], [pack(0)]), [(at_gear(0), [200, 1, 4, 0, 1], [200, 1, 0, 0, 1])])
        self.assertEqual(changed(THREE + [board(0, 0), fly()], [pack(0)]), [
            (at_gear(0), [200, 0, 0, 1, 1], [200, 1, 0, 1, 1])])

    def test_check(self):
        self.assertEqual(changed(THREE, [check(0)]), [])
        self.assertEqual(changed(THREE + [board(0, 0), fly()], [check(0)]), [
            (at_gear(0), [200, 0, 0, 1, 1], [200, 0, 0, 0, 1])])

    def test_wind(self):
        self.assertEqual(changed(THREE, [wind(50)]), [(AT_STATE, [0, 0, 2, 3, 3, 0, 0], [0, 50, 2, 3, 3, 0, 0])])
        self.assertEqual(changed(THREE + [wind(3)], [wind(51)]), [])

    def test_days(self):
        calls = school([(0, 0, 80)]) + [board(0, 0)]
        self.assertEqual(changed(calls, [days(400)]), [
            (0, [0, 0, 80, 0, 1, 1], [0, 0, 80, 400, 1, 1]), (at_gear(0), [200, 1, 0, 0, 1], [200, 1, 400, 0, 1]),
            (AT_STATE, [0, 0, 1, 1, 1, 1, 0], [400, 0, 1, 1, 1, 1, 0])])

    def test_board_join_off(self):
        self.assertEqual(changed(THREE, [board(1, 1)]), [
            (1, [1, 3, 90, 0, 2, 0], [1, 3, 90, 0, 2, 2]), (AT_STATE, [0, 0, 2, 3, 3, 0, 0], [0, 0, 2, 3, 3, 1, 0]),
            (AT_ORDER, [0], [1, 1]), (AT_GROUPS, [0], [1, 1, 1])])
        self.assertEqual(changed(THREE + [board(1, 0)], [join(0, 1)]), [
            (0, [0, 10, 80, 0, 1, 0], [0, 10, 80, 0, 1, 1]), (AT_STATE, [0, 0, 2, 3, 3, 1, 0], [0, 0, 2, 3, 3, 2, 0]),
            (AT_ORDER, [1, 1], [2, 0, 1]), (AT_GROUPS, [1, 0, 1], [1, 0, 2])])
        self.assertEqual(changed(THREE + [board(1, 0), join(0, 1)], [off(1)]), [
            (1, [1, 3, 90, 0, 2, 1], [1, 3, 90, 0, 2, 0]), (AT_STATE, [0, 0, 2, 3, 3, 2, 0], [0, 0, 2, 3, 3, 1, 0]),
            (AT_ORDER, [2, 0, 1], [1, 0]), (AT_GROUPS, [1, 0, 2], [1, 0, 1])])
        self.assertEqual(changed(THREE, [board(1, 1), off(1)]), [])

    def test_fly(self):
        calls = THREE + [days(2), board(2, 0), join(0, 2)]
        self.assertEqual(changed(calls, [fly()]), [
            (0, [0, 10, 80, 2, 1, 1], [0, 11, 80, 0, 1, 0]), (2, [2, 0, 70, 2, 3, 1], [2, 1, 70, 0, 3, 0]),
            (at_gear(0), [200, 1, 2, 0, 1], [200, 0, 2, 1, 1]), (at_gear(2), [200, 1, 2, 0, 3], [200, 0, 2, 1, 3]),
            (AT_STATE, [2, 0, 2, 3, 3, 2, 0], [2, 0, 2, 3, 3, 0, 1]), (AT_ORDER, [2, 0, 2], [0]),
            (AT_GROUPS, [1, 0, 2], [0])])

    def test_promote(self):
        self.assertEqual(changed(THREE, [promote(0)]), [(0, [0, 10, 80, 0, 1, 0], [1, 10, 80, 0, 1, 0])])

    def test_they_themselves_change_nothing(self):
        calls = THREE + [board(1, 0), join(2, 1)]
        self.assertEqual(changed(calls, [look(0), look(9), told_of(0), told_of(9), state(), order(), groups()]), [])


if __name__ == "__main__":
    unittest.main()
