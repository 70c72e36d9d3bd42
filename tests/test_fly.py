"""Promise 4: fly, and the order in which groups leave."""

import unittest

from tests.calls import (back, begin, board, check, days, fly, gear, give, join, jumper, kind, last, off, pack, school,
                         wind)

LONG_AGO = -63
WIND = -64
OLD = -67


def load(reasons, aboard, kinds=((0, 0, 5), (0, 0, 5))):
    """A load that is to fly while its jumpers may not for these reasons (0: may), by their numbers.

    The wind is 7, day 6: a jumper of licence 0 can't bear it; who came on day 0 jumped too long ago; gear that was
    packed on day 0 is too old. The others came, or were packed, on day 1, and have licence 1.
    """
    early = [j for j, reason in enumerate(reasons) if reason == LONG_AGO]
    if early != list(range(len(early))):
        raise AssertionError("who came first has the first numbers")
    numbers = range(len(reasons))
    calls = [begin(16, 5, 100)] + [kind(*each) for each in kinds]
    calls += [gear(100) for g in numbers] + [jumper(1, 0, 80) for j in early] + [days(1)]
    calls += [pack(g) for g in numbers if reasons[g] != OLD]
    calls += [jumper(0 if reason == WIND else 1, 0, 80) for reason in reasons[len(early):]]
    calls += [give(j, j) for j in numbers]
    return calls + aboard + [days(5), wind(7)]


class WhatItAnswers(unittest.TestCase):
    def test_how_many_they_were_and_how_many_groups(self):
        calls = school([(0, 0, 80)] * 6, kinds=((0, 0, 9), (0, 0, 9)))
        self.assertEqual(last(calls + [board(3, 0), fly()]), [1, 1])
        self.assertEqual(last(calls + [board(3, 0), join(1, 3), fly()]), [2, 1])
        calls += [board(0, 1), join(1, 0), join(2, 0), board(3, 0), board(4, 1), join(5, 4), fly()]
        self.assertEqual(last(calls), [6, 3])

    def test_nobody_aboard(self):
        calls = school([(0, 0, 80)])
        self.assertEqual(last([begin(1, 1, 1), fly()]), [-6])
        self.assertEqual(last(calls + [fly()]), [-6])
        self.assertEqual(last(calls + [board(0, 0), off(0), fly()]), [-6])
        self.assertEqual(last(calls + [board(0, 0), fly(), fly()]), [-6])


class WhatItChanges(unittest.TestCase):
    def test_each_has_one_jump_more(self):
        calls = school([(0, 3, 80), (0, 2, 80), (0, 3, 80)], kinds=((0, 0, 9), (0, 4, 9)))
        calls += [board(0, 0), join(1, 0), fly(), pack(0), pack(1)]
        self.assertEqual(last(calls + [board(0, 1)]), [1])
        self.assertEqual(last(calls + [board(1, 1)]), [-62])
        self.assertEqual(last(calls + [board(2, 1)]), [-62])

    def test_a_thousand_jumps_are_not_the_most(self):
        calls = school([(0, 1000, 80)], kinds=((0, 1000, 9),)) + [board(0, 0), fly(), pack(0), board(0, 0), fly()]
        self.assertEqual(last(calls), [1, 1])

    def test_the_last_jump_was_today(self):
        calls = school([(0, 0, 80), (0, 0, 80)], kinds=((0, 0, 3),)) + [days(2), board(0, 0), fly(), pack(0)]
        self.assertEqual(last(calls + [days(3), board(0, 0)]), [1])
        self.assertEqual(last(calls + [days(4), board(0, 0)]), [LONG_AGO])
        self.assertEqual(last(calls + [days(1), board(1, 0)]), [1])
        self.assertEqual(last(calls + [days(2), board(1, 0)]), [LONG_AGO])

    def test_nobody_is_aboard(self):
        calls = school([(0, 0, 80), (0, 0, 80)], seats=1) + [board(0, 0), fly()]
        self.assertEqual(last(calls + [off(0)]), [-6])
        self.assertEqual(last(calls + [board(1, 0)]), [1])
        self.assertEqual(last(calls + [pack(0), board(0, 0)]), [1])

    def test_gear_is_not_packed_any_more_and_has_one_jump_more(self):
        calls = school([(0, 0, 80)] * 3) + [board(0, 0), join(1, 0), fly()]
        self.assertEqual([last(calls + [board(j, 0)]) for j in range(3)], [[-66], [-66], [1]])
        self.assertEqual([last(calls + [check(g)]) for g in range(3)], [[1], [1], [0]])
        self.assertEqual([last(calls + [pack(g)]) for g in range(3)], [[0], [0], [-17]])

    def test_gear_is_worn_on(self):
        calls = school([(0, 0, 80), (0, 0, 80)]) + [back(0), back(1), give(0, 1), board(0, 0), fly()]
        self.assertEqual(last(calls + [give(1, 1)]), [-16])
        self.assertEqual(last(calls + [back(0)]), [1])
        self.assertEqual([last(calls + [check(g)]) for g in range(2)], [[0], [1]])

    def test_day_and_wind_stay(self):
        calls = school([(0, 0, 80)]) + [days(2), wind(6), board(0, 0), fly()]
        self.assertEqual(last(calls + [wind(0)]), [6])
        self.assertEqual(last(calls + [days(1)]), [3])


class AsThingsAreNow(unittest.TestCase):
    def test_a_wind_that_rises_while_aboard(self):
        calls = school([(0, 0, 80), (1, 0, 80)]) + [board(0, 0), board(1, 0)]
        self.assertEqual(last(calls + [wind(6), fly()]), [2, 2])
        self.assertEqual(last(calls + [wind(7), fly()]), [WIND])
        self.assertEqual(last(calls + [wind(7), fly(), wind(6), fly()]), [2, 2])
        self.assertEqual(last(calls + [wind(7), off(0), fly()]), [1, 1])

    def test_a_load_that_is_aboard_over_days(self):
        calls = school([(0, 0, 80)], kinds=((0, 0, 3),), pack_days=9) + [board(0, 0)]
        self.assertEqual(last(calls + [days(3), fly()]), [1, 1])
        self.assertEqual(last(calls + [days(4), fly()]), [LONG_AGO])
        calls = school([(0, 0, 80)], pack_days=3) + [board(0, 0)]
        self.assertEqual(last(calls + [days(3), fly()]), [1, 1])
        self.assertEqual(last(calls + [days(4), fly()]), [OLD])
        self.assertEqual(last(calls + [days(4), pack(0), fly()]), [1, 1])

    def test_refused_changes_nothing(self):
        calls = school([(0, 0, 80), (1, 0, 80)], kinds=((0, 0, 9), (0, 1, 9))) + [board(1, 0), join(0, 1), wind(7)]
        refused = calls + [fly()]
        self.assertEqual(last(refused), [WIND])
        self.assertEqual(last(refused + [check(1)]), [0])
        self.assertEqual(last(refused + [pack(1)]), [-17])
        self.assertEqual(last(refused + [off(1)]), [1])
        self.assertEqual(last(refused + [off(1), board(1, 1)]), [-62])
        self.assertEqual(last(refused + [wind(0), fly()]), [2, 1])


class WhoDecidesTheRefusal(unittest.TestCase):
    def test_the_lesser_kind_leaves_first(self):
        aboard = [board(0, 1), board(1, 0)]
        self.assertEqual(last(load([WIND, OLD], aboard) + [fly()]), [OLD])
        self.assertEqual(last(load([OLD, WIND], aboard) + [fly()]), [WIND])

    def test_the_lesser_kind_leaves_ahead_of_a_larger_group(self):
        aboard = [board(0, 1), join(1, 0), join(2, 0), board(3, 0)]
        self.assertEqual(last(load([WIND, WIND, WIND, OLD], aboard) + [fly()]), [OLD])

    def test_of_one_kind_the_larger_group_leaves_first(self):
        aboard = [board(0, 0), board(1, 0), join(2, 1)]
        self.assertEqual(last(load([WIND, OLD, OLD], aboard) + [fly()]), [OLD])
        self.assertEqual(last(load([OLD, 0, WIND], aboard) + [fly()]), [WIND])
        aboard = [board(0, 0), join(1, 0), board(2, 0), join(3, 2), join(4, 2)]
        self.assertEqual(last(load([WIND, 0, 0, 0, OLD], aboard) + [fly()]), [OLD])

    def test_of_alike_large_groups_the_lesser_first_number(self):
        aboard = [board(2, 0), join(3, 2), board(0, 0), join(1, 0)]
        self.assertEqual(last(load([OLD, 0, WIND, WIND], aboard) + [fly()]), [OLD])
        aboard = [board(0, 0), join(3, 0), board(1, 0), join(2, 1)]
        self.assertEqual(last(load([0, WIND, WIND, OLD], aboard) + [fly()]), [OLD])

    def test_the_first_number_is_compared_as_a_number(self):
        aboard = [board(10, 0), board(9, 0)]
        self.assertEqual(last(load([0] * 9 + [OLD, WIND], aboard) + [fly()]), [OLD])

    def test_in_a_group_the_lesser_numbers_first(self):
        aboard = [board(2, 0), join(0, 2), join(1, 0)]
        self.assertEqual(last(load([0, OLD, WIND], aboard) + [fly()]), [OLD])
        self.assertEqual(last(load([LONG_AGO, OLD, WIND], aboard) + [fly()]), [LONG_AGO])
        self.assertEqual(last(load([0, WIND, OLD], aboard) + [fly()]), [WIND])

    def test_who_may_jump_is_passed_over(self):
        aboard = [board(0, 0), join(1, 0), board(2, 1)]
        self.assertEqual(last(load([0, 0, OLD], aboard) + [fly()]), [OLD])
        self.assertEqual(last(load([0, 0, 0], aboard) + [fly()]), [3, 2])

    def test_the_kind_is_that_of_the_group_not_of_the_first_to_leave(self):
        aboard = [board(1, 1), board(0, 0)]
        kinds = ((0, 0, 9), (0, 0, 4))
        self.assertEqual(last(load([0, 0], aboard, kinds) + [fly()]), [LONG_AGO])
        self.assertEqual(last(load([0, 0], [board(0, 0)], kinds) + [fly()]), [1, 1])

    def test_a_groups_first_who_goes_off(self):
        aboard = [board(0, 0), join(3, 0), join(4, 0), board(1, 0), join(2, 1)]
        reasons = [0, OLD, 0, WIND, 0]
        self.assertEqual(last(load(reasons, aboard) + [fly()]), [WIND])
        self.assertEqual(last(load(reasons, aboard + [off(0)]) + [fly()]), [OLD])

    def test_who_joins_with_a_lesser_number(self):
        aboard = [board(3, 0), board(1, 0), join(2, 1), join(0, 3)]
        self.assertEqual(last(load([0, OLD, 0, WIND], aboard) + [fly()]), [WIND])

    def test_a_group_that_shrinks_leaves_later(self):
        aboard = [board(0, 0), join(1, 0), board(2, 0), join(3, 2)]
        reasons = [0, OLD, 0, WIND]
        self.assertEqual(last(load(reasons, aboard) + [fly()]), [OLD])
        self.assertEqual(last(load(reasons, aboard + [off(0)]) + [fly()]), [WIND])


if __name__ == "__main__":
    unittest.main()
