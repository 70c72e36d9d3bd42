"""Promise 3: board, join, off."""

import unittest

from tests.calls import HUGE, back, board, days, fly, join, last, off, school, told, wind

FOUR = [(0, 0, 80)] * 4
TWO_KINDS = ((0, 0, 1000), (1, 0, 1000))


class Board(unittest.TestCase):
    def test_answers_how_many_are_aboard(self):
        calls = school([(1, 0, 80)] * 3, kinds=TWO_KINDS) + [board(2, 0), board(0, 1), board(1, 0)]
        self.assertEqual(told(calls)[-3:], [[1], [2], [3]])

    def test_each_is_a_group_of_their_own(self):
        calls = school(FOUR) + [board(0, 0), board(1, 0), board(2, 0), fly()]
        self.assertEqual(last(calls), [3, 3])

    def test_who_is_aboard_already(self):
        calls = school(FOUR, kinds=TWO_KINDS) + [board(0, 0)]
        self.assertEqual(last(calls + [board(0, 0)]), [-17])
        self.assertEqual(last(calls + [join(1, 0), board(1, 0)]), [-17])

    def test_aboard_already_ahead_of_why_they_may_not(self):
        calls = school(FOUR, kinds=TWO_KINDS) + [board(0, 0)]
        self.assertEqual(last(calls + [board(0, 1)]), [-17])
        self.assertEqual(last(calls + [wind(50), board(0, 0)]), [-17])

    def test_aboard_already_ahead_of_no_seat(self):
        self.assertEqual(last(school(FOUR, seats=1) + [board(0, 0), board(0, 0)]), [-17])

    def test_all_seats_are_taken(self):
        for seats in (1, 2, 3):
            calls = school(FOUR, seats=seats) + [board(j, 0) for j in range(seats)]
            with self.subTest(seats=seats):
                self.assertEqual(last(calls), [seats])
                self.assertEqual(last(calls + [board(3, 0)]), [-28])

    def test_seats_are_counted_by_people_not_groups(self):
        calls = school(FOUR, seats=2) + [board(0, 0), join(1, 0)]
        self.assertEqual(last(calls + [board(2, 0)]), [-28])

    def test_why_not_ahead_of_no_seat(self):
        calls = school(FOUR, kinds=TWO_KINDS, seats=1) + [board(0, 0)]
        self.assertEqual(last(calls + [board(1, 1)]), [-61])
        self.assertEqual(last(calls + [wind(7), board(1, 0)]), [-64])
        self.assertEqual(last(calls + [back(1), board(1, 0)]), [-65])

    def test_sixteen_seats_take_all_who_can_wear_gear(self):
        calls = school([(0, 0, 80)] * 12) + [board(j, 0) for j in range(12)]
        self.assertEqual(last(calls), [12])
        self.assertEqual(last(calls + [fly()]), [12, 12])

    def test_refused_takes_nobody_aboard(self):
        calls = school(FOUR, kinds=TWO_KINDS, seats=2) + [board(0, 1), board(1, 0), board(0, 0), board(2, 0)]
        self.assertEqual(told(calls)[-4:], [[-61], [1], [2], [-28]])
        self.assertEqual(last(calls + [off(2)]), [-6])
        self.assertEqual(last(calls + [fly()]), [2, 2])


class Join(unittest.TestCase):
    def test_answers_how_many_the_group_is(self):
        calls = school(FOUR) + [board(0, 0), board(1, 0), join(2, 0), join(3, 2)]
        self.assertEqual(told(calls)[-4:], [[1], [2], [2], [3]])
        self.assertEqual(last(calls + [fly()]), [4, 2])

    def test_the_kind_is_that_of_the_group(self):
        calls = school([(1, 0, 80), (0, 0, 80)], kinds=TWO_KINDS)
        self.assertEqual(last(calls + [board(0, 1), join(1, 0)]), [-61])
        self.assertEqual(last(calls + [board(0, 0), join(1, 0)]), [2])

    def test_who_is_aboard_already(self):
        calls = school(FOUR) + [board(0, 0), board(1, 0)]
        self.assertEqual(last(calls + [join(0, 1)]), [-17])
        self.assertEqual(last(calls + [join(0, 0)]), [-17])
        self.assertEqual(last(calls + [join(2, 0), join(2, 0)]), [-17])

    def test_nobody_to_join(self):
        calls = school(FOUR) + [board(0, 0)]
        self.assertEqual(last(calls + [join(1, 2)]), [-6])
        self.assertEqual(last(calls + [join(1, 1)]), [-6])
        self.assertEqual(last(calls + [fly(), join(1, 0)]), [-6])

    def test_aboard_already_ahead_of_nobody_to_join(self):
        self.assertEqual(last(school(FOUR) + [board(0, 0), join(0, 1)]), [-17])

    def test_aboard_already_ahead_of_why_not_and_no_seat(self):
        calls = school(FOUR, seats=2) + [board(0, 0), board(1, 0)]
        self.assertEqual(last(calls + [join(0, 1)]), [-17])
        self.assertEqual(last(calls + [wind(50), join(0, 1)]), [-17])

    def test_nobody_to_join_ahead_of_why_not_and_no_seat(self):
        calls = school(FOUR, seats=1) + [board(0, 0)]
        self.assertEqual(last(calls + [join(1, 2)]), [-6])
        self.assertEqual(last(calls + [wind(50), join(1, 2)]), [-6])

    def test_why_not_ahead_of_no_seat(self):
        calls = school([(1, 0, 80), (0, 0, 80), (1, 0, 80)], kinds=TWO_KINDS, seats=1) + [board(0, 1)]
        self.assertEqual(last(calls + [join(1, 0)]), [-61])
        self.assertEqual(last(calls + [back(2), join(2, 0)]), [-65])
        self.assertEqual(last(calls + [join(2, 0)]), [-28])

    def test_all_seats_are_taken(self):
        calls = school(FOUR, seats=2) + [board(0, 0), join(1, 0), join(2, 0)]
        self.assertEqual(told(calls)[-3:], [[1], [2], [-28]])
        self.assertEqual(last(calls + [fly()]), [2, 1])

    def test_each_reason_why_not(self):
        calls = school([(1, 5, 80), (1, 5, 80)], kinds=((0, 0, 3),), pack_days=5) + [board(0, 0)]
        self.assertEqual(last(calls + [days(4), join(1, 0)]), [-63])
        self.assertEqual(last(calls + [wind(10), join(1, 0)]), [-64])
        self.assertEqual(last(calls + [back(1), join(1, 0)]), [-65])
        self.assertEqual(last(calls + [off(0), board(1, 0), fly(), board(0, 0), join(1, 0)]), [-66])
        jumps = school([(1, 5, 80), (1, 4, 80)], kinds=((0, 5, 3),)) + [board(0, 0), join(1, 0)]
        self.assertEqual(last(jumps), [-62])

    def test_an_old_pack(self):
        calls = school(FOUR, pack_days=1) + [board(0, 0), days(2), join(1, 0)]
        self.assertEqual(last(calls), [-67])


class Off(unittest.TestCase):
    def test_answers_how_many_are_aboard(self):
        calls = school(FOUR) + [board(0, 0), board(1, 0), join(2, 0), off(0), off(1), off(2)]
        self.assertEqual(told(calls)[-3:], [[2], [1], [0]])

    def test_who_is_not_aboard(self):
        calls = school(FOUR) + [board(0, 0)]
        self.assertEqual(last(calls + [off(1)]), [-6])
        self.assertEqual(last(calls + [off(0), off(0)]), [-6])
        self.assertEqual(last(calls + [fly(), off(0)]), [-6])
        self.assertEqual(last(calls + [off(HUGE)]), [-2])

    def test_not_aboard_any_more(self):
        calls = school(FOUR, kinds=((0, 0, 1000), (0, 0, 1000)), seats=1) + [board(0, 0), off(0)]
        self.assertEqual(last(calls + [fly()]), [-6])
        self.assertEqual(last(calls + [join(1, 0)]), [-6])
        self.assertEqual(last(calls + [board(0, 1)]), [1])
        self.assertEqual(last(calls + [board(1, 0)]), [1])

    def test_a_groups_first_goes_off_and_the_group_stays(self):
        calls = school(FOUR) + [board(0, 0), join(1, 0), join(2, 1), off(0)]
        self.assertEqual(last(calls + [join(3, 0)]), [-6])
        self.assertEqual(last(calls + [join(3, 1)]), [3])
        self.assertEqual(last(calls + [fly()]), [2, 1])
        self.assertEqual(last(calls + [board(0, 0), fly()]), [3, 2])
        self.assertEqual(last(calls + [join(0, 2), fly()]), [3, 1])

    def test_a_group_that_all_left_is_none(self):
        calls = school(FOUR) + [board(0, 0), board(1, 0), off(0), fly()]
        self.assertEqual(last(calls), [1, 1])

    def test_others_groups_stay_as_they_are(self):
        calls = school(FOUR) + [board(0, 0), join(1, 0), board(2, 0), off(2), board(2, 0), join(3, 1)]
        self.assertEqual(told(calls)[-3:], [[2], [3], [3]])

    def test_who_may_not_jump_any_more_may_go_off(self):
        calls = school(FOUR) + [board(0, 0), wind(50), off(0)]
        self.assertEqual(last(calls), [0])


if __name__ == "__main__":
    unittest.main()
